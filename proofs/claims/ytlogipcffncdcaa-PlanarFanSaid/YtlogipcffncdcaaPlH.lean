/-
  The walk of the law PlanarFan: it answers true.
-/
import Derived.Test.YtlogipcffncdcaaPlG
namespace Go.Proofs.Ytlogipcffncdcaa
open Go.RowKit
theorem htakeQ {P : Program} {ops : Array Oper} {Q : Exit → Act → World → Prop} {md : Region.Mode} {S : World → Prop} {i : Nat} {oi : Oper} {v : Value} {fuel : Nat} {listed : Array Bool} {a : Act} {w : World} (d : Option Tmp) (hi : ops[i]? = some oi) (hd : oi.dst = d)
    (hs : Region.noSelect ops = true) (hf : Region.free md ops listed i = true) (hr : (Region.ready md ops listed).contains i = true)
    (hQ : ∀ c a w, Q (.panic c) (a.put d v) w → Q (.panic c) a w) (hy : YieldsIf P ops S oi v a) (hS : S w)
    (h : wpAnyH P md ops Q S fuel (listed.setIfInBounds i true) (a.put d v) w) : wpAnyH P md ops Q S (fuel + 1) listed a w := by
  subst hd
  exact wpAnyH_take hi hs hf hr hQ hy hS h

def px (L : List (Int × Int)) (i : Nat) : Int := (L[i]?.getD (0, 0)).1
def py (L : List (Int × Int)) (i : Nat) : Int := (L[i]?.getD (0, 0)).2
theorem pat {L : List (Int × Int)} {i : Nat} (h : i < L.length) : L[i]? = some (px L i, py L i) := by
  unfold px py
  rw [List.getElem?_eq_getElem h]; rfl
theorem pterm_at {L : List (Int × Int)} {i j : Nat} (hi : i < L.length) (hj : j < L.length) : pterm L i j = px L i * py L j - py L i * px L j := by
  unfold pterm
  rw [pat hi, pat hj]
/-- The cross product of the first point, point i and point j. -/
def pcr (L : List (Int × Int)) (i j : Nat) : Int := (px L i - px L 0) * (py L j - py L 0) - (py L i - py L 0) * (px L j - px L 0)
def pfan (L : List (Int × Int)) : Nat → Int
  | 0 => 0
  | k + 1 => pfan L k + (if k = 0 then 0 else pcr L k (k + 1))
theorem fan_path {L : List (Int × Int)} : ∀ k : Nat, 1 ≤ k → k < L.length → pfan L k = parea L k + (px L k * py L 0 - py L k * px L 0)
  | 0, h, _ => absurd h (by omega)
  | 1, _, h => by
    have e : parea L 1 = pterm L 0 1 := by simp [parea, Nat.mod_eq_of_lt h]
    rw [e, pterm_at (L := L) (i := 0) (j := 1) (by omega) h]
    simp only [pfan]
    simp
    grind
  | k + 2, _, h => by
    have ih := fan_path (L := L) (k + 1) (by omega) (by omega)
    have e1 : pfan L (k + 2) = pfan L (k + 1) + pcr L (k + 1) (k + 2) := by
      rw [show pfan L (k + 2) = pfan L (k + 1) + (if k + 1 = 0 then 0 else pcr L (k + 1) (k + 1 + 1)) from rfl, if_neg (by omega)]
    have e2 : parea L (k + 2) = parea L (k + 1) + pterm L (k + 1) (k + 2) := by
      rw [show parea L (k + 2) = parea L (k + 1) + pterm L (k + 1) ((k + 1 + 1) % L.length) from rfl, Nat.mod_eq_of_lt h]
    rw [e1, e2, ih, pterm_at (L := L) (i := k + 1) (j := k + 2) (by omega) h]
    unfold pcr
    grind
theorem fan_area {L : List (Int × Int)} (h : 3 ≤ L.length) : pfan L (L.length - 1) = parea L L.length := by
  have e := fan_path (L := L) (L.length - 1) (by omega) (by omega)
  rw [e]
  obtain ⟨n, hn⟩ : ∃ n, L.length = n + 1 := ⟨L.length - 1, by omega⟩
  have e2 : parea L (n + 1) = parea L n + pterm L n ((n + 1) % L.length) := rfl
  have e3 : (n + 1) % L.length = 0 := by rw [hn]; exact Nat.mod_self _
  rw [e3, pterm_at (by omega) (by omega)] at e2
  rw [hn, e2]
  simp
theorem pcr_is {L : List (Int × Int)} (h : PUse L) {i j : Nat} (h0 : 0 < L.length) (hi : i < L.length) (hj : j < L.length) : PCross (px L 0) (py L 0) (px L i) (py L i) (px L j) (py L j) (pcr L i j) :=
  .inl ⟨h.2 _ _ _ (pat h0), h.2 _ _ _ (pat hi), h.2 _ _ _ (pat hj), rfl⟩
theorem pcr_size {L : List (Int × Int)} (h : PUse L) {i j : Nat} (h0 : 0 < L.length) (hi : i < L.length) (hj : j < L.length) : -2251799813685248 ≤ pcr L i j ∧ pcr L i j ≤ 2251799813685248 := by
  obtain ⟨a0, a1, a2, a3⟩ := h.2 _ _ _ (pat h0)
  obtain ⟨b0, b1, b2, b3⟩ := h.2 _ _ _ (pat hi)
  obtain ⟨c0, c1, c2, c3⟩ := h.2 _ _ _ (pat hj)
  unfold pcr
  have m0 := mul_in (a := px L i - px L 0) (b := py L j - py L 0) (k := 33554432) (m := 33554432) (by omega) (by omega) (by omega) (by omega)
  have m1 := mul_in (a := py L i - py L 0) (b := px L j - px L 0) (k := 33554432) (m := 33554432) (by omega) (by omega) (by omega) (by omega)
  omega
theorem pfan_size {L : List (Int × Int)} (h : PUse L) (h0 : 0 < L.length) : ∀ k : Nat, k < L.length → -(2251799813685248 * k) ≤ pfan L k ∧ pfan L k ≤ 2251799813685248 * k
  | 0, _ => by simp [pfan]
  | k + 1, hk => by
    have := pfan_size h h0 k (by omega)
    have := pcr_size h h0 (show k < L.length by omega) hk
    simp only [pfan]
    split <;> omega
set_option maxHeartbeats 4000000 in
theorem law_Fan_out (q : Option Addr) (c : Nat) (L : List (Int × Int)) (h : L.length < 3 ∨ 100 < L.length) (w : World) : Calls Try.prog 10 #[.slice q L.length c] w fun e w' => e = .returned (.bool true) ∧ Ext w w' := by
  have ka := Lib.hid law_awake5
  rcases Nat.lt_or_ge L.length 3 with h3 | h3
  · have d1 := dlt_t (show (L.length : Int) < 3 by omega)
    clear h h3
    go_enter Try.func10, Try.ntmps10
    go_wp2_with fail
    refine (ka.out _).mono ?_; rintro e w1 ⟨rfl, x_w1⟩
    obtain ⟨k_w1, f_w1⟩ := bcell x_w1
    have X_w1 := Lib.hid (show Ext w w1 from Ext.trans (by (repeat' (with_reducible first | refine Ext.drew ?_ | refine Ext.drewN ?_ _ | refine Ext.alloc ?_ _ | exact Ext.refl _ | fail | (refine Ext.setCell ?_ ?_ _; rotate_left; (focus ((try simp); try omega)))))) x_w1)
    clear x_w1
    go_wp2_with fail
    go_ret
    exact ⟨rfl, by (repeat' (with_reducible first | refine Ext.drew ?_ | refine Ext.drewN ?_ _ | refine Ext.alloc ?_ _ | exact Ext.refl _ | exact X_w1.out | (refine Ext.setCell ?_ ?_ _; rotate_left; (focus ((try simp); try omega)))))⟩
  · have d1 := dlt_f (show (3 : Int) ≤ L.length by omega)
    have d2 := dlt_t (show (100 : Int) < L.length by omega)
    clear h h3
    go_enter Try.func10, Try.ntmps10
    go_wp2_with fail
    refine (ka.out _).mono ?_; rintro e w1 ⟨rfl, x_w1⟩
    obtain ⟨k_w1, f_w1⟩ := bcell x_w1
    have X_w1 := Lib.hid (show Ext w w1 from Ext.trans (by (repeat' (with_reducible first | refine Ext.drew ?_ | refine Ext.drewN ?_ _ | refine Ext.alloc ?_ _ | exact Ext.refl _ | fail | (refine Ext.setCell ?_ ?_ _; rotate_left; (focus ((try simp); try omega)))))) x_w1)
    clear x_w1
    go_wp2_with fail
    go_ret
    exact ⟨rfl, by (repeat' (with_reducible first | refine Ext.drew ?_ | refine Ext.drewN ?_ _ | refine Ext.alloc ?_ _ | exact Ext.refl _ | exact X_w1.out | (refine Ext.setCell ?_ ?_ _; rotate_left; (focus ((try simp); try omega)))))⟩
set_option maxHeartbeats 8000000 in
theorem law_Fan (q : Option Addr) (c : Nat) (L : List (Int × Int)) (h3 : 3 ≤ L.length) (h4 : L.length ≤ 100) (w : World) (hL : PI w q L) : Calls Try.prog 10 #[.slice q L.length c] w fun e w' => e = .returned (.bool true) ∧ Ext w w' := by
  have ka := Lib.hid law_awake5
  have d1 := dlt_f (show (3 : Int) ≤ L.length by omega)
  have d2 := dlt_f (show (L.length : Int) ≤ 100 by omega)
  have HL := Lib.hid hL
  have H3 := Lib.hid h3; have H4 := Lib.hid h4
  clear hL h3 h4
  go_enter Try.func10, Try.ntmps10
  go_wp2_with fail
  go_loopw [4] (fun i wr => ∃ k : Nat, i = .int .i64 k ∧ k ≤ L.length ∧ (∀ (j : Nat) (x y : Int), j < k → L[j]? = some (x, y) → In2 16777216 x y) ∧ Ext w wr) (fun i _ => L.length - (intOf i).toNat)
  case atStart => exact ⟨0, rfl, by omega, fun j _ _ hj => absurd hj (by omega), Ext.refl _⟩
  case round =>
    obtain ⟨k, rfl, hk, hok, hxt⟩ := hrel
    by_cases h : k < L.length
    · obtain ⟨⟨x, y⟩, hd⟩ : ∃ d, L[k]? = some d := ⟨_, List.getElem?_eq_getElem h⟩
      obtain ⟨bl, o, rfl, e1, e2⟩ := (HL.out.ext hxt) k x y hd
      have z := cell_lt e1
      have kL : (k : Int) < L.length := by omega
      have k100 : k ≤ 100 := by have := H4.out; omega
      have HX := Lib.hid hxt
      by_cases hi : In2 16777216 x y
      · have c1 := Lib.hid fun w => planar_Valid x y true (by rw [decide_eq_true hi]) w
        have HOK := Lib.hid (show ∀ (j : Nat) (u v : Int), j < k + 1 → L[j]? = some (u, v) → In2 16777216 u v from fun j u v hj he => by
          rcases Nat.lt_or_ge j k with h' | h'
          · exact hok j u v h' he
          · obtain rfl : j = k := by omega
            rw [hd] at he; cases he; exact hi)
        clear hok hd hxt hi
        go_wp2_with fail
        refine (c1.out _).mono ?_; rintro e w1 ⟨rfl, x1⟩
        have X1 := Lib.hid (HX.out.trans x1)
        clear x1
        go_wp2_with fail
        go_roundw
        case rel => exact ⟨k + 1, by go_num, by omega, HOK.out, X1.out⟩
        case measure => simp [intOf]; omega
      · have c1 := Lib.hid fun w => planar_Valid x y false (by rw [decide_eq_false hi]) w
        have c2 := Lib.hid fun W hx => planar_Area2_no (some ⟨bl, o, none⟩) c L (fun hu => hi (hu.2 k x y hd)) W (HL.out.ext hx)
        clear hok hd hxt hi
        go_wp2_with fail
        refine (c1.out _).mono ?_; rintro e w1 ⟨rfl, x1⟩
        have X1 := Lib.hid (HX.out.trans x1)
        clear x1
        go_wp2_with fail
        refine (c2.out _ X1.out).mono ?_; rintro e w2 ⟨rfl, x2⟩
        have X2 := Lib.hid (X1.out.trans x2)
        clear x2
        go_wp2_with fail
        refine (ka.out _).mono ?_; rintro e w3 ⟨rfl, x3⟩
        have X3 := Lib.hid (X2.out.trans x3)
        clear x3
        go_wp2_with fail
        go_ret
        exact ⟨rfl, X3.out⟩
    · obtain rfl : k = L.length := by omega
      have kL : ¬ ((L.length : Int) < L.length) := by omega
      have hu : PUse L := ⟨by have := H4.out; omega, fun i x y hi => hok i x y (List.getElem?_eq_some_iff.1 hi).1 hi⟩
      have HU := Lib.hid hu
      have HX := Lib.hid hxt
      have s3 : (L.length : Int) - 1 ≤ 99 := by have := H4.out; omega
      have s4 : (2 : Int) ≤ (L.length : Int) - 1 := by have := H3.out; omega
      have rl : IntKind.i64.wrap ((L.length : Int) - 1) = L.length - 1 := IntWalk.i64_in _ (by omega)
      clear hok hxt hu
      go_wp2_with fail
      go_loopw [3, 5] (fun s i wr' => ∃ k : Nat, i = .int .i64 k ∧ s = .int .i64 (pfan L k) ∧ 1 ≤ k ∧ k ≤ L.length - 1 ∧ Ext wr wr') (fun _ i _ => L.length - (intOf i).toNat)
      case atStart => exact ⟨1, rfl, rfl, by omega, by omega, Ext.refl _⟩
      case round =>
        obtain ⟨k, rfl, rfl, h1, hk, hxt⟩ := hrel
        have h0 : 0 < L.length := by omega
        by_cases h : k < L.length - 1
        · have g0 := pat h0
          have g1 := pat (show k < L.length by omega)
          have g2 := pat (show k + 1 < L.length by omega)
          obtain ⟨bl, o, hq, a0, a1⟩ := (HL.out.ext (HX.out.trans hxt)) _ _ _ g0
          obtain ⟨bl', o', hq', a2, a3⟩ := (HL.out.ext (HX.out.trans hxt)) _ _ _ g1
          obtain ⟨bl'', o'', hq'', a4, a5⟩ := (HL.out.ext (HX.out.trans hxt)) _ _ _ g2
          subst hq
          cases hq'
          cases hq''
          simp only [Nat.zero_mul, Nat.add_zero] at a0 a1
          have b0 : ∀ w', Ext wr w' → w'.cell? ⟨bl, o, none⟩ = some (.int .i64 (px L 0)) := fun _ h => h.keep a0
          have b1 : ∀ w', Ext wr w' → w'.cell? ⟨bl, o + 1, none⟩ = some (.int .i64 (py L 0)) := fun _ h => h.keep a1
          have b2 : ∀ w', Ext wr w' → w'.cell? ⟨bl, o + k * 2, none⟩ = some (.int .i64 (px L k)) := fun _ h => h.keep a2
          have b3 : ∀ w', Ext wr w' → w'.cell? ⟨bl, o + k * 2 + 1, none⟩ = some (.int .i64 (py L k)) := fun _ h => h.keep a3
          have b4 : ∀ w', Ext wr w' → w'.cell? ⟨bl, o + (k + 1) * 2, none⟩ = some (.int .i64 (px L (k + 1))) := fun _ h => h.keep a4
          have b5 : ∀ w', Ext wr w' → w'.cell? ⟨bl, o + (k + 1) * 2 + 1, none⟩ = some (.int .i64 (py L (k + 1))) := fun _ h => h.keep a5
          have z := cell_lt a0
          have cs := Lib.hid fun w => planar_Cross _ _ _ _ _ _ _ (pcr_is HU.out h0 (show k < L.length by omega) (show k + 1 < L.length by omega)) w
          have nx : pfan L (k + 1) = pfan L k + pcr L k (k + 1) := by
            rw [show pfan L (k + 1) = pfan L k + (if k = 0 then 0 else pcr L k (k + 1)) from rfl, if_neg (by omega)]
          have t0 := pfan_size HU.out h0 k (by omega)
          have t1 := pfan_size HU.out h0 (k + 1) (by omega)
          have kk : k ≤ 100 := by have := H4.out; omega
          have r4 : IntKind.i64.wrap (pfan L k + pcr L k (k + 1)) = pfan L k + pcr L k (k + 1) := IntWalk.i64_in _ (by omega)
          have r5 : IntKind.i64.wrap ((k : Int) + 1) = k + 1 := IntWalk.i64_in _ (by omega)
          have kL : (k : Int) < L.length - 1 := by omega
          have dk := dlt_t kL
          have kn : k < L.length := by omega
          have kn1 : k + 1 < L.length := by omega
          have ki0 : (0 : Int) ≤ (k : Int) + 1 := by omega
          have ki1 : (k : Int) + 1 < (L.length : Int) := by omega
          have NX := Lib.hid nx; have HX2 := Lib.hid hxt
          have E0 := Ext.refl wr
          clear g0 g1 g2 a0 a1 a2 a3 a4 a5 nx t0 t1 hxt
          generalize pcr L k (k + 1) = cr at *
          generalize pfan L k = s at *
          go_wp2_with fail
          refine wp_region_held_drew (S := fun w' => Ext wr w') (by kernel_rfl) (by (try dsimp only); (repeat' (with_reducible first | assumption | refine Ext.drew ?_ | refine Ext.drewN ?_ _ | exact Ext.refl _))) (fun hHeld => ?_)
          refine htakeQ (i := 0) (v := ?_) (some 40) rfl rfl (by kernel_rfl) (by kernel_rfl) (by kernel_rfl) (fun _ _ _ h => h) (Or.inl ⟨by rfl, ?_⟩) (by assumption) ?_; rotate_left; (focus (intro w hSw; (try dsimp only at hSw); go_simp; (try with_reducible rfl))); (try simp only [Act.put, List.setIfInBounds_toArray]); (try dsimp only [List.set_cons_succ, List.set_cons_zero])
          refine htakeQ (i := 1) (v := ?_) (some 41) rfl rfl (by kernel_rfl) (by kernel_rfl) (by kernel_rfl) (fun _ _ _ h => h) (Or.inl ⟨by rfl, ?_⟩) (by assumption) ?_; rotate_left; (focus (intro w hSw; (try dsimp only at hSw); go_simp; (try with_reducible rfl))); (try simp only [Act.put, List.setIfInBounds_toArray]); (try dsimp only [List.set_cons_succ, List.set_cons_zero])
          refine htakeQ (i := 2) (v := ?_) (some 42) rfl rfl (by kernel_rfl) (by kernel_rfl) (by kernel_rfl) (fun _ _ _ h => h) (Or.inl ⟨by rfl, ?_⟩) (by assumption) ?_; rotate_left; (focus (intro w hSw; (try dsimp only at hSw); go_simp; (try with_reducible rfl))); (try simp only [Act.put, List.setIfInBounds_toArray]); (try dsimp only [List.set_cons_succ, List.set_cons_zero])
          refine htakeQ (i := 3) (v := ?_) (some 43) rfl rfl (by kernel_rfl) (by kernel_rfl) (by kernel_rfl) (fun _ _ _ h => h) (Or.inl ⟨by rfl, ?_⟩) (by assumption) ?_; rotate_left; (focus (intro w hSw; (try dsimp only at hSw); go_simp; (try with_reducible rfl))); (try simp only [Act.put, List.setIfInBounds_toArray]); (try dsimp only [List.set_cons_succ, List.set_cons_zero])
          refine htakeQ (i := 4) (v := ?_) (some 44) rfl rfl (by kernel_rfl) (by kernel_rfl) (by kernel_rfl) (fun _ _ _ h => h) (Or.inl ⟨by rfl, ?_⟩) (by assumption) ?_; rotate_left; (focus (intro w hSw; (try dsimp only at hSw); go_simp; (try with_reducible rfl))); (try simp only [Act.put, List.setIfInBounds_toArray]); (try dsimp only [List.set_cons_succ, List.set_cons_zero])
          refine htakeQ (i := 5) (v := ?_) (some 45) rfl rfl (by kernel_rfl) (by kernel_rfl) (by kernel_rfl) (fun _ _ _ h => h) (Or.inl ⟨by rfl, ?_⟩) (by assumption) ?_; rotate_left; (focus (intro w hSw; (try dsimp only at hSw); go_simp; (try with_reducible rfl))); (try simp only [Act.put, List.setIfInBounds_toArray]); (try dsimp only [List.set_cons_succ, List.set_cons_zero])
          refine htakeQ (i := 6) (v := ?_) (some 46) rfl rfl (by kernel_rfl) (by kernel_rfl) (by kernel_rfl) (fun _ _ _ h => h) (Or.inl ⟨by rfl, ?_⟩) (by assumption) ?_; rotate_left; (focus (intro w hSw; (try dsimp only at hSw); go_simp; (try with_reducible rfl))); (try simp only [Act.put, List.setIfInBounds_toArray]); (try dsimp only [List.set_cons_succ, List.set_cons_zero])
          refine htakeQ (i := 7) (v := ?_) (some 47) rfl rfl (by kernel_rfl) (by kernel_rfl) (by kernel_rfl) (fun _ _ _ h => h) (Or.inl ⟨by rfl, ?_⟩) (by assumption) ?_; rotate_left; (focus (intro w hSw; (try dsimp only at hSw); go_simp; (try with_reducible rfl))); (try simp only [Act.put, List.setIfInBounds_toArray]); (try dsimp only [List.set_cons_succ, List.set_cons_zero])
          refine htakeQ (i := 8) (v := ?_) (some 48) rfl rfl (by kernel_rfl) (by kernel_rfl) (by kernel_rfl) (fun _ _ _ h => h) (Or.inl ⟨by rfl, ?_⟩) (by assumption) ?_; rotate_left; (focus (intro w hSw; (try dsimp only at hSw); go_simp; (try with_reducible rfl))); (try simp only [Act.put, List.setIfInBounds_toArray]); (try dsimp only [List.set_cons_succ, List.set_cons_zero])
          refine htakeQ (i := 9) (v := ?_) (some 49) rfl rfl (by kernel_rfl) (by kernel_rfl) (by kernel_rfl) (fun _ _ _ h => h) (Or.inl ⟨by rfl, ?_⟩) (by assumption) ?_; rotate_left; (focus (intro w hSw; (try dsimp only at hSw); go_simp; (try with_reducible rfl))); (try simp only [Act.put, List.setIfInBounds_toArray]); (try dsimp only [List.set_cons_succ, List.set_cons_zero])
          refine htakeQ (i := 10) (v := ?_) (some 50) rfl rfl (by kernel_rfl) (by kernel_rfl) (by kernel_rfl) (fun _ _ _ h => h) (Or.inl ⟨by rfl, ?_⟩) (by assumption) ?_; rotate_left; (focus (intro w hSw; (try dsimp only at hSw); go_simp; (try with_reducible rfl))); (try simp only [Act.put, List.setIfInBounds_toArray]); (try dsimp only [List.set_cons_succ, List.set_cons_zero])
          refine htakeQ (i := 11) (v := ?_) (some 51) rfl rfl (by kernel_rfl) (by kernel_rfl) (by kernel_rfl) (fun _ _ _ h => h) (Or.inl ⟨by rfl, ?_⟩) (by assumption) ?_; rotate_left; (focus (intro w hSw; (try dsimp only at hSw); go_simp; (try with_reducible rfl))); (try simp only [Act.put, List.setIfInBounds_toArray]); (try dsimp only [List.set_cons_succ, List.set_cons_zero])
          refine htakeQ (i := 12) (v := ?_) (some 52) rfl rfl (by kernel_rfl) (by kernel_rfl) (by kernel_rfl) (fun _ _ _ h => h) (Or.inl ⟨by rfl, ?_⟩) (by assumption) ?_; rotate_left; (focus (intro w hSw; (try dsimp only at hSw); go_simp; (try with_reducible rfl))); (try simp only [Act.put, List.setIfInBounds_toArray]); (try dsimp only [List.set_cons_succ, List.set_cons_zero])
          refine wpAnyH_ready (rs := [13]) (by kernel_rfl) (by simp) ?_
          refine AllReadyH.cons rfl (fun K hK => ?_) AllReadyH.nil
          go_simp
          refine (cs.out _).mono ?_; rintro e w5 ⟨rfl, y5⟩; have x_w5 := Ext.trans (show Ext wr _ by assumption) y5; clear y5
          (try go_wp2_with fail)
          refine hK.out _ _ ?_ (fun hHeld => ?_)
          · (try dsimp only); (repeat' (with_reducible first | assumption | refine Ext.drew ?_ | refine Ext.drewN ?_ _ | exact Ext.refl _))
          clear hK K
          (try simp only [Act.put, List.setIfInBounds_toArray]); (try dsimp only [List.set_cons_succ, List.set_cons_zero])
          refine htakeQ (i := 14) (v := ?_) (some 54) rfl rfl (by kernel_rfl) (by kernel_rfl) (by kernel_rfl) (fun _ _ _ h => h) (Or.inl ⟨by rfl, ?_⟩) (by assumption) ?_; rotate_left; (focus (intro w hSw; (try dsimp only at hSw); go_simp; (try with_reducible rfl))); (try simp only [Act.put, List.setIfInBounds_toArray]); (try dsimp only [List.set_cons_succ, List.set_cons_zero])
          refine htakeQ (i := 15) (v := ?_) (some 3) rfl rfl (by kernel_rfl) (by kernel_rfl) (by kernel_rfl) (fun _ _ _ h => h) (Or.inl ⟨by rfl, ?_⟩) (by assumption) ?_; rotate_left; (focus (intro w hSw; (try dsimp only at hSw); go_simp; (try with_reducible rfl))); (try simp only [Act.put, List.setIfInBounds_toArray]); (try dsimp only [List.set_cons_succ, List.set_cons_zero])
          refine wpAnyH_done (by kernel_rfl) ?_ _
          clear hHeld
          go_wp2_with fail
          go_roundw
          case rel => exact ⟨k + 1, by go_num, by rw [NX.out], by omega, by omega, by have := HX2.out.trans x_w5; (repeat' (with_reducible first | assumption | refine Ext.drew ?_ | refine Ext.drewN ?_ _ | exact Ext.refl _))⟩
          case measure => simp [intOf]; omega
        · obtain rfl : k = L.length - 1 := by omega
          have kL : ¬ (((L.length - 1 : Nat) : Int) < (L.length : Int) - 1) := by omega
          have dk := dlt_f (show (L.length : Int) - 1 ≤ ((L.length - 1 : Nat) : Int) by omega)
          have ca := Lib.hid fun W hx => planar_Area2 q c L HU.out W (HL.out.ext hx)
          have HX2 := Lib.hid (HX.out.trans hxt)
          have fe := fan_area (L := L) H3.out
          rw [← fe] at ca
          have e9 := beq_t (rfl : pfan L (L.length - 1) = pfan L (L.length - 1))
          generalize pfan L (L.length - 1) = s at *
          clear hxt fe
          go_wp2_with fail
          refine (ca.out _ HX2.out).mono ?_; rintro e w2 ⟨rfl, x2⟩
          have X2 := Lib.hid (HX2.out.trans x2)
          clear x2
          go_wp2_with fail
          refine (ka.out _).mono ?_; rintro e w3 ⟨rfl, x3⟩
          have X3 := Lib.hid (X2.out.trans x3)
          clear x3
          go_wp2_with fail
          go_ret
          exact ⟨rfl, X3.out⟩
theorem law_PlanarFan (v : Value) (w : World) (h : Opened w v [.int .i64, .int .i64]) : Calls Try.prog 10 #[v] w fun e w' => e = .returned (.bool true) ∧ Ext w w' := by
  obtain ⟨q, c, L, rfl, hL, _⟩ := pts_of_opened h
  by_cases h3 : L.length < 3 ∨ 100 < L.length
  · exact law_Fan_out q c L h3 w
  · exact law_Fan q c L (by omega) (by omega) w hL
end Go.Proofs.Ytlogipcffncdcaa

