/-
  Contracts of package thermal and of the document's own answers: Run, for any slice of duties.
-/
import Derived.Test.YthgmacoljkljfaaThB
import Derived.Test.YthgmacoljkljfaaSlc
namespace Go.Proofs.Ythgmacoljkljfaa
open Go.RowKit
/-- The temperature a tick after t, whatever the heater. -/
def hst (p l m a t d : Int) : Int := if HVal p l m a then hstep p l m a t d else 0
theorem hst_is (p l m a t d : Int) : HStepIs p l m a t d (hst p l m a t d) := by
  unfold HStepIs hst
  by_cases h : HVal p l m a
  · exact .inl ⟨h, by rw [if_pos h]⟩
  · exact .inr ⟨h, by rw [if_neg h]⟩
/-- The temperature after the first k duties. -/
def hs (p l m a t : Int) (L : List Int) (k : Nat) : Int := (L.take k).foldl (hst p l m a) t
theorem hs_zero (p l m a t : Int) (L : List Int) : hs p l m a t L 0 = t := by simp [hs]
theorem hs_next (p l m a t : Int) (L : List Int) (k : Nat) (d : Int) (h : L[k]? = some d) : hs p l m a t L (k + 1) = hst p l m a (hs p l m a t L k) d := by
  unfold hs
  rw [List.take_add_one, h]
  simp
/-- The temperatures after each of the first k duties. -/
def hout (p l m a t : Int) (L : List Int) (k : Nat) : List Int := (List.range k).map fun i => hs p l m a t L (i + 1)
theorem hout_next (p l m a t : Int) (L : List Int) (k : Nat) : (hout p l m a t L (k + 1)).map (Value.int .i64) = (hout p l m a t L k).map (Value.int .i64) ++ [.int .i64 (hs p l m a t L (k + 1))] := by
  simp [hout, List.range_succ]
theorem infoI : (Try.prog.info? 3).map (fun i => (i.zero, i.size, i.bytes)) = some (some (.int .i64 0), 1, 8) := by kernel_rfl
set_option maxHeartbeats 4000000 in
theorem thermal_Run1 (p l m a t d : Int) (B : Nat) (w : World) (q0 : w.cell? ⟨B, 0, none⟩ = some (.int .i64 p)) (q1 : w.cell? ⟨B, 1, none⟩ = some (.int .i64 l)) (q2 : w.cell? ⟨B, 2, none⟩ = some (.int .i64 m)) (q3 : w.cell? ⟨B, 3, none⟩ = some (.int .i64 a)) :
    Calls Try.prog 50 #[.int .i64 t, .int .i64 d, .pointer (some ⟨B, 0, none⟩)] w fun e w' => e = .returned (.int .i64 (hst p l m a t d)) ∧ Ext w w' := by
  have hh := hst_is p l m a t d
  generalize hst p l m a t d = r at *
  have c1 := Lib.hid fun w => thermal_HStep p l m a t d r hh w
  clear hh
  have z := cell_lt q0
  (try simp at z)
  go_enter Try.func50, Try.ntmps50
  go_wp2_with fail
  refine (c1.out _).mono ?_; rintro e w1 ⟨rfl, x_w1⟩
  obtain ⟨k_w1, f_w1⟩ := bcell x_w1
  have X_w1 := Lib.hid (show Ext w w1 from Ext.trans (by (repeat' (with_reducible first | refine Ext.drew ?_ | refine Ext.drewN ?_ _ | refine Ext.alloc ?_ _ | exact Ext.refl _ | fail | (refine Ext.setCell ?_ ?_ _; rotate_left; (focus ((try simp); try omega)))))) x_w1)
  clear x_w1
  go_wp2_with fail
  go_ret
  exact ⟨rfl, by (repeat' (with_reducible first | refine Ext.drew ?_ | refine Ext.drewN ?_ _ | refine Ext.alloc ?_ _ | exact Ext.refl _ | exact X_w1.out | (refine Ext.setCell ?_ ?_ _; rotate_left; (focus ((try simp); try omega)))))⟩
set_option maxHeartbeats 4000000 in
/-- fold, when its function is Run's closure. -/
theorem thermal_fold (p l m a t : Int) (B b o c : Nat) (L : List Int) (_hc : L.length ≤ c) (hm : L.length ≤ 1048576) (w : World) (q0 : w.cell? ⟨B, 0, none⟩ = some (.int .i64 p)) (q1 : w.cell? ⟨B, 1, none⟩ = some (.int .i64 l)) (q2 : w.cell? ⟨B, 2, none⟩ = some (.int .i64 m)) (q3 : w.cell? ⟨B, 3, none⟩ = some (.int .i64 a)) (hL : IS w b o L) :
    Calls Try.prog 49 #[.int .i64 t, .slice (some ⟨b, o, none⟩) L.length c, .func (.func 50) #[] #[.pointer (some ⟨B, 0, none⟩)]] w fun e w' => ∃ v, e = .returned v ∧ IntsIn w' v (hout p l m a t L L.length) ∧ Ext w w' := by
  obtain ⟨i0, hi, hz0, hz1, hz2⟩ := info_parts infoI
  obtain ⟨B', hB⟩ : ∃ B', B' = w.heap.size := ⟨_, rfl⟩
  have HB := Lib.hid hB
  clear hB
  go_enter Try.func49, Try.ntmps49
  go_wp2_with fail
  go_loopw [0, 7, 12] (fun s v i wr => ∃ k : Nat, i = .int .i64 k ∧ s = .int .i64 (hs p l m a t L k) ∧ k ≤ L.length ∧ wr.ownsRow B' 3 1 v k ((hout p l m a t L k).map (Value.int .i64)) ∧ Ext w wr) (fun _ _ i _ => L.length - (intOf i).toNat)
  case atStart => exact ⟨0, rfl, by rw [hs_zero], by omega, by simpa [hout] using World.ownsRow_nil _ _ _ _, Ext.refl _⟩
  case round =>
    obtain ⟨k, rfl, rfl, hk, hown, hxt⟩ := hrel
    by_cases h : k < L.length
    · obtain ⟨d, hd⟩ : ∃ d, L[k]? = some d := ⟨_, List.getElem?_eq_getElem h⟩
      have e1 := (hL.ext hxt) k d hd
      have bl : b < wr.heap.size := cell_lt e1
      have nx := hs_next p l m a t L k d hd
      have no := hout_next p l m a t L k
      have kL : (k : Int) < L.length := by omega
      have NO := Lib.hid no; have HX := Lib.hid hxt
      have HL := Lib.hid hL; have HOWN := Lib.hid hown
      have NX := Lib.hid nx
      have cc := Lib.hid (fun s => thermal_Run1 p l m a s d B wr (hxt.keep q0) (hxt.keep q1) (hxt.keep q2) (hxt.keep q3))
      clear nx no hL hown hd q0 q1 q2 q3 hxt
      generalize hs p l m a t L k = s at *
      go_wp2_with fail
      refine (cc.out s).mono ?_; rintro e w1 ⟨rfl, x1⟩
      have HOWN1 := Lib.hid (own_ext HOWN.out x1)
      have X1 := Lib.hid (HX.out.trans x1)
      have hsz : B' ≤ w1.heap.size := by rw [HB.out]; exact X1.out.size
      rw [← NX.out]
      clear x1 NX
      go_wp2_with (at_builtin; refine wpList_append_own _ rfl _ _ 50 rfl B' 3 i0 (.int .i64 0) 1 8 Try.underlying50 hi hz0 hz1 hz2 rfl (by decide) _ _ _ rfl (HOWN1.out.alloc _) ⟨w1.heap.size, 0, none⟩ 1 1 [.int .i64 (hs p l m a t L (k + 1))] rfl rfl ?c1 ?c2 ?c3 ?c4 ?c5 ?_)
      case c1 =>
        intro j v hj
        rcases j with _ | j
        · simp at hj; subst hj; go_simp
        · simp at hj
      case c2 => simp [Value.oneCell']
      case c3 => unfold maxLen; omega
      case c4 => omega
      case c5 => simp; omega
      intro v' w2 hown' hgrow _
      rw [← NO.out] at hown'
      have hx2 : Ext w w2 := Below.grown (X1.out.alloc _) hgrow (X1.out.alloc _).size (fun j hj => by have := (HOWN1.out.lt j hj).1; rw [HB.out] at this; exact this)
      have HX2 := Lib.hid hx2
      have HO := Lib.hid hown'
      clear hx2 hown' hgrow HOWN HOWN1 X1 HX
      go_wp2_with fail
      go_roundw
      case rel => exact ⟨k + 1, by go_num, rfl, by omega, HO.out, HX2.out⟩
      case measure => simp [intOf]; omega
    · obtain rfl : k = L.length := by omega
      have kL : ¬ ((L.length : Int) < L.length) := by omega
      have HX := Lib.hid hxt; have HOWN := Lib.hid (own_ints hown)
      clear hxt hown hL q0 q1 q2 q3
      go_wp2_with fail
      go_ret
      exact ⟨_, rfl, HOWN.out, HX.out⟩
set_option maxHeartbeats 4000000 in
theorem thermal_fold_none (f : Value) (t : Int) (q : Option Addr) (c : Nat) (w : World) :
    Calls Try.prog 49 #[.int .i64 t, .slice q 0 c, f] w fun e w' => e = .returned (.slice none 0 0) ∧ Ext w w' := by
  go_enter Try.func49, Try.ntmps49
  go_wp2_with fail
  refine wp_loop_rounds 2 ?_
  rw [rounds_succ]; go_wp2_with fail
  go_ret
  exact ⟨rfl, by (repeat' (with_reducible first | refine Ext.drew ?_ | refine Ext.drewN ?_ _ | refine Ext.alloc ?_ _ | exact Ext.refl _ | fail | (refine Ext.setCell ?_ ?_ _; rotate_left; (focus ((try simp); try omega)))))⟩
set_option maxHeartbeats 4000000 in
theorem thermal_Run (p l m a t : Int) (v : Value) (L : List Int) (hm : L.length ≤ 1048576) (w : World) (h : IntsIn w v L) :
    Calls Try.prog 36 #[.agg #[.int .i64 p, .int .i64 l, .int .i64 m, .int .i64 a], .int .i64 t, v] w fun e w' => ∃ v, e = .returned v ∧ IntsIn w' v (hout p l m a t L L.length) ∧ Ext w w' := by
  rcases h with ⟨rfl, q, c, rfl⟩ | ⟨b, o, c, rfl, h0, hc, _, hL⟩
  · have c1 := Lib.hid fun f w => thermal_fold_none f t q c w
    clear hm
    go_enter Try.func36, Try.ntmps36
    go_wp2_with fail
    refine (c1.out _ _).mono ?_; rintro e w1 ⟨rfl, x_w1⟩
    obtain ⟨k_w1, f_w1⟩ := bcell x_w1
    have X_w1 := Lib.hid (show Ext w w1 from Ext.trans (by (repeat' (with_reducible first | refine Ext.drew ?_ | refine Ext.drewN ?_ _ | refine Ext.alloc ?_ _ | exact Ext.refl _ | fail | (refine Ext.setCell ?_ ?_ _; rotate_left; (focus ((try simp); try omega)))))) x_w1)
    clear x_w1
    go_wp2_with fail
    go_ret
    exact ⟨_, rfl, .inl ⟨rfl, _, _, rfl⟩, X_w1.out⟩
  · have c1 := Lib.hid fun B W hx q0 q1 q2 q3 => thermal_fold p l m a t B b o c L hc hm W q0 q1 q2 q3 (hL.ext hx)
    have n0 := Lib.hid h0; have n1 := Lib.hid hm; have n2 := Lib.hid hc; have n3 := Lib.hid hL
    clear h0 hm hc hL
    go_enter Try.func36, Try.ntmps36
    go_wp2_with fail
    refine (c1.out _ _ ((Ext.refl w).alloc _) (by go_simp) (by go_simp) (by go_simp) (by go_simp)).mono ?_; rintro e w1 ⟨v, rfl, hv, x1⟩
    have HV := Lib.hid hv; have X1 := Lib.hid (((Ext.refl w).alloc _).trans x1)
    clear hv x1
    go_wp2_with fail
    go_ret
    exact ⟨_, rfl, HV.out, X1.out⟩
set_option maxHeartbeats 4000000 in
theorem ref_Run_some (p l m a t : Int) (b o c : Nat) (L : List Int) (_hc : L.length ≤ c) (hm : L.length ≤ 1048576) (w : World) (hL : IS w b o L) :
    Calls Try.prog 37 #[.agg #[.int .i64 p, .int .i64 l, .int .i64 m, .int .i64 a], .int .i64 t, .slice (some ⟨b, o, none⟩) L.length c] w fun e w' => ∃ v, e = .returned v ∧ IntsIn w' v (hout p l m a t L L.length) ∧ Ext w w' := by
  obtain ⟨i0, hi, hz0, hz1, hz2⟩ := info_parts infoI
  go_enter Try.func37, Try.ntmps37
  go_wp2_with fail
  refine wp_world fun W h_W => ?_
  have q0_W : W.cell? ⟨w.heap.size, 0, none⟩ = some (.int .i64 p) := by rw [h_W]; go_simp
  have u0_W : ∀ w', Ext W w' → w'.cell? ⟨w.heap.size, 0, none⟩ = some (.int .i64 p) := fun _ h => h.keep q0_W
  have q1_W : W.cell? ⟨w.heap.size, 1, none⟩ = some (.int .i64 l) := by rw [h_W]; go_simp
  have u1_W : ∀ w', Ext W w' → w'.cell? ⟨w.heap.size, 1, none⟩ = some (.int .i64 l) := fun _ h => h.keep q1_W
  have q2_W : W.cell? ⟨w.heap.size, 2, none⟩ = some (.int .i64 m) := by rw [h_W]; go_simp
  have u2_W : ∀ w', Ext W w' → w'.cell? ⟨w.heap.size, 2, none⟩ = some (.int .i64 m) := fun _ h => h.keep q2_W
  have q3_W : W.cell? ⟨w.heap.size, 3, none⟩ = some (.int .i64 a) := by rw [h_W]; go_simp
  have u3_W : ∀ w', Ext W w' → w'.cell? ⟨w.heap.size, 3, none⟩ = some (.int .i64 a) := fun _ h => h.keep q3_W
  have X_W := Lib.hid (show Ext w W by rw [h_W]; exact (by (repeat' (with_reducible first | refine Ext.drew ?_ | refine Ext.drewN ?_ _ | refine Ext.alloc ?_ _ | exact Ext.refl _ | fail | (refine Ext.setCell ?_ ?_ _; rotate_left; (focus ((try simp); try omega)))))))
  clear h_W
  replace hL := hL.ext X_W.out
  obtain ⟨B', hB⟩ : ∃ B', B' = W.heap.size := ⟨_, rfl⟩
  have HB := Lib.hid hB
  have zB : w.heap.size < W.heap.size := cell_lt q0_W
  clear hB u0_W u1_W u2_W u3_W
  go_loopw [1, 7, 12] (fun s v i wr => ∃ k : Nat, i = .int .i64 k ∧ s = .int .i64 (hs p l m a t L k) ∧ k ≤ L.length ∧ wr.ownsRow B' 3 1 v k ((hout p l m a t L k).map (Value.int .i64)) ∧ Ext W wr) (fun _ _ i _ => L.length - (intOf i).toNat)
  case atStart => exact ⟨0, rfl, by rw [hs_zero], by omega, by simpa [hout] using World.ownsRow_nil _ _ _ _, Ext.refl _⟩
  case round =>
    obtain ⟨k, rfl, rfl, hk, hown, hxt⟩ := hrel
    by_cases h : k < L.length
    · obtain ⟨d, hd⟩ : ∃ d, L[k]? = some d := ⟨_, List.getElem?_eq_getElem h⟩
      have e1 := (hL.ext hxt) k d hd
      have bl : b < wr.heap.size := cell_lt e1
      have nx := hs_next p l m a t L k d hd
      have no := hout_next p l m a t L k
      have kL : (k : Int) < L.length := by omega
      have NO := Lib.hid no; have HX := Lib.hid hxt
      have HL := Lib.hid hL; have HOWN := Lib.hid hown
      have hh := hst_is p l m a (hs p l m a t L k) d
      have k0 := hxt.keep q0_W; have k1 := hxt.keep q1_W; have k2 := hxt.keep q2_W; have k3 := hxt.keep q3_W
      have zr : w.heap.size < wr.heap.size := cell_lt k0
      generalize hst p l m a (hs p l m a t L k) d = r at *
      have NX := Lib.hid nx
      have cc := Lib.hid fun w => additiveref48_HStep p l m a (hs p l m a t L k) d r hh w
      clear hh
      clear nx no hL hown hd q0_W q1_W q2_W q3_W hxt
      generalize hs p l m a t L k = s at *
      go_wp2_with fail
      refine (cc.out _).mono ?_; rintro e w1 ⟨rfl, x1⟩
      have HOWN1 := Lib.hid (own_ext HOWN.out x1)
      have X1 := Lib.hid (HX.out.trans x1)
      have hsz : B' ≤ w1.heap.size := by rw [HB.out]; exact X1.out.size
      rw [← NX.out]
      clear x1 NX
      go_wp2_with (at_builtin; refine wpList_append_own _ rfl _ _ 50 rfl B' 3 i0 (.int .i64 0) 1 8 Try.underlying50 hi hz0 hz1 hz2 rfl (by decide) _ _ _ rfl (HOWN1.out.alloc _) ⟨w1.heap.size, 0, none⟩ 1 1 [.int .i64 (hs p l m a t L (k + 1))] rfl rfl ?c1 ?c2 ?c3 ?c4 ?c5 ?_)
      case c1 =>
        intro j v hj
        rcases j with _ | j
        · simp at hj; subst hj; go_simp
        · simp at hj
      case c2 => simp [Value.oneCell']
      case c3 => unfold maxLen; omega
      case c4 => omega
      case c5 => simp; omega
      intro v' w2 hown' hgrow _
      rw [← NO.out] at hown'
      have hx2 : Ext W w2 := Below.grown (X1.out.alloc _) hgrow (X1.out.alloc _).size (fun j hj => by have := (HOWN1.out.lt j hj).1; rw [HB.out] at this; exact this)
      have HX2 := Lib.hid hx2
      have HO := Lib.hid hown'
      clear hx2 hown' hgrow HOWN HOWN1 X1 HX
      go_wp2_with fail
      go_roundw
      case rel => exact ⟨k + 1, by go_num, rfl, by omega, HO.out, HX2.out⟩
      case measure => simp [intOf]; omega
    · obtain rfl : k = L.length := by omega
      have kL : ¬ ((L.length : Int) < L.length) := by omega
      have HX := Lib.hid hxt; have HOWN := Lib.hid (own_ints hown)
      clear hxt hown hL q0_W q1_W q2_W q3_W
      go_wp2_with fail
      go_ret
      exact ⟨_, rfl, HOWN.out, X_W.out.trans HX.out⟩
set_option maxHeartbeats 4000000 in
theorem ref_Run (p l m a t : Int) (v : Value) (L : List Int) (hm : L.length ≤ 1048576) (w : World) (h : IntsIn w v L) :
    Calls Try.prog 37 #[.agg #[.int .i64 p, .int .i64 l, .int .i64 m, .int .i64 a], .int .i64 t, v] w fun e w' => ∃ v, e = .returned v ∧ IntsIn w' v (hout p l m a t L L.length) ∧ Ext w w' := by
  rcases h with ⟨rfl, q, c, rfl⟩ | ⟨b, o, c, rfl, h0, hc, _, hL⟩
  · clear hm
    go_enter Try.func37, Try.ntmps37
    go_wp2_with fail
    refine wp_loop_rounds 2 ?_
    rw [rounds_succ]; go_wp2_with fail
    go_ret
    exact ⟨_, rfl, .inl ⟨rfl, _, _, rfl⟩, (Ext.refl _).alloc _⟩
  · exact ref_Run_some p l m a t b o c L hc hm w hL
end Go.Proofs.Ythgmacoljkljfaa

