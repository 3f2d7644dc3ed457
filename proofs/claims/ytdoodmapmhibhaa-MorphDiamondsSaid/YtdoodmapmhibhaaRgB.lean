/-
  Regions: validity, counts, equality.
-/
import Derived.Test.YtdoodmapmhibhaaProg
import Derived.Test.YtdoodmapmhibhaaFvX
import Derived.Test.YtdoodmapmhibhaaFvZ
import Derived.Test.YtdoodmapmhibhaaAut
import Derived.Test.YtdoodmapmhibhaaRd
import Derived.Test.YtdoodmapmhibhaaPl
import Derived.Test.YtdoodmapmhibhaaScn
import Derived.Test.YtdoodmapmhibhaaRegM
import Derived.Test.YtdoodmapmhibhaaRgA
namespace Go.Proofs.Ytdoodmapmhibhaa
open Go
theorem el_g {R : Rg} {i : Nat} (h : i < R.length) : el_ilii R (i : Int) = R[i] := elm_lt (t := (.prod (.int .i64) (.list (.prod (.int .i64) (.int .i64))))) h
theorem pre_n {n i : Nat} (h : i < n) (hn : (n : Int) ≤ 9223372036854775807) : (bif decide ((i : Int) > (0 : Int)) then (decide ((0 : Int) ≤ IntKind.wrap .i64 ((i : Int) - (1 : Int))) && decide (IntKind.wrap .i64 ((i : Int) - (1 : Int)) < (n : Int))) else true) = true ∧ (0 < i → IntKind.wrap .i64 ((i : Int) - (1 : Int)) = ((i - 1 : Nat) : Int)) := by
  cases i with
  | zero => exact ⟨rfl, fun h => absurd h (Nat.lt_irrefl _)⟩
  | succ i =>
    have e : IntKind.wrap .i64 (((i + 1 : Nat) : Int) - (1 : Int)) = (i : Int) := by rw [wid (by omega) (by omega)]; omega
    rw [e]
    refine ⟨?_, fun _ => rfl⟩
    rw [decide_eq_true (show ((i + 1 : Nat) : Int) > 0 by omega), decide_eq_true (show (0 : Int) ≤ (i : Int) by omega), decide_eq_true (show (i : Int) < (n : Int) by omega)]
    rfl
noncomputable def bdG (R : Rg) (i : Nat) : Bool := bif (bif decide ((i : Int) > (0 : Int)) then decide (Prod.fst (el_ilii R (i : Int)) ≤ Prod.fst (el_ilii R (IntKind.wrap .i64 ((i : Int) - (1 : Int))))) else false) then true else !rowB (Prod.fst (el_ilii R (i : Int))) (Prod.snd (el_ilii R (i : Int)))
noncomputable def bdH (R : Rg) (i : Nat) : Bool := bif (bif bif decide (Prod.fst (el_ilii R (i : Int)) < (-4096 : Int)) then true else decide (Prod.fst (el_ilii R (i : Int)) ≥ (4096 : Int)) then true else bif decide ((i : Int) > (0 : Int)) then decide (Prod.fst (el_ilii R (i : Int)) ≤ Prod.fst (el_ilii R (IntKind.wrap .i64 ((i : Int) - (1 : Int))))) else false) then true else !fineB (Prod.snd (el_ilii R (i : Int)))
theorem bdG_one {R : Rg} (hn : (R.length : Int) ≤ 9223372036854775807) {i : Nat} (h : i < R.length) : (!bdG R i) = true ↔ goodG (-4097) R i h := by
  have e := el_g h
  unfold goodG bdG
  have hr : rowB R[i].1 R[i].2 = true ↔ rowOk R[i] := rowB_iff
  by_cases h0 : 0 < i
  · have e2 := (pre_n h hn).2 h0
    have e3 := el_g (R := R) (i := i - 1) (by omega)
    have d : decide ((i : Int) > (0 : Int)) = true := decide_eq_true (by omega)
    rw [e, e2, e3, d]
    simp [Bool.cond_eq_ite, hr]
    constructor
    · rintro ⟨a, b⟩; exact ⟨b, by have := b.1; omega, fun _ => a⟩
    · rintro ⟨a, _, c⟩; exact ⟨c h0, a⟩
  · have d : decide ((i : Int) > (0 : Int)) = false := decide_eq_false (by omega)
    rw [e, d]
    simp [Bool.cond_eq_ite, hr]
    intro a
    exact ⟨by have := a.1; omega, fun g => absurd g h0⟩
theorem bdH_eq {R : Rg} (hn : (R.length : Int) ≤ 9223372036854775807) {i : Nat} (h : i < R.length) : bdH R i = bdG R i := by
  unfold bdH bdG
  rw [rowB_eq]
  have e : ∀ (y : Int) (b f : Bool), (bif bif bif decide (y < (-4096 : Int)) then true else decide (y ≥ (4096 : Int)) then true else b then true else !f) = (bif b then true else !(decide (-4096 ≤ y) && (decide (y < 4096) && f))) := fun y b f => by
    by_cases h1 : y < -4096
    · rw [decide_eq_true h1, decide_eq_false (show ¬ -4096 ≤ y by omega)]; cases b <;> rfl
    · rw [decide_eq_false h1, decide_eq_true (show -4096 ≤ y by omega)]
      by_cases h2 : y ≥ 4096
      · rw [decide_eq_true h2, decide_eq_false (show ¬ y < 4096 by omega)]; cases b <;> rfl
      · rw [decide_eq_false h2, decide_eq_true (show y < 4096 by omega)]; cases b <;> cases f <;> rfl
  exact e _ _ _
theorem gva_run {R : Rg} (hs : szG R = true) : gva_cond (R, (R.length : Int), R) (false, 0) = true ∧ ((valG R ∧ gva_g (R, (R.length : Int), R) (false, 0) = (1, (false, (R.length : Int)))) ∨ (¬ valG R ∧ ∃ j : Nat, gva_g (R, (R.length : Int), R) (false, 0) = (0, (false, (j : Int))))) := by
  have hn := sz_len hs
  obtain ⟨h1, h2⟩ := run_scan (step := gva_step (R, (R.length : Int), R)) (St := fun i => (false, (i : Int))) (Lv := fun i => (0, (false, (i : Int)))) (t := (1, (false, (R.length : Int)))) (n := R.length) (p := fun i => !bdG R i) (fun i hi => by
    have c5 := (pre_n hi hn).1
    have c6 : decide (((Prod.snd (el_ilii R (i : Int))).length : Int) ≤ 9223372036854775807) = true := by rw [el_g hi]; exact decide_eq_true (sz_row hs hi)
    simp only [gva_step, Tr.val, lt_t hi, nn_t, c5, c6, wi2 hi (show (R.length : Int) ≤ 9223372036854775807 by omega), Bool.and_self, Bool.cond_self, cond_true]
    unfold bdG
    generalize rowB _ _ = b
    generalize (bif decide ((i : Int) > (0 : Int)) then decide (Prod.fst (el_ilii R (i : Int)) ≤ Prod.fst (el_ilii R (IntKind.wrap .i64 ((i : Int) - (1 : Int))))) else false) = c
    cases c <;> cases b <;> rfl) (by simp only [gva_step, Tr.val, Int.lt_irrefl, decide_false, cond_false])
  refine ⟨h1, ?_⟩
  rcases h2 with ⟨h, h3⟩ | ⟨j, hj, hp, _, h4⟩
  · exact .inl ⟨valG_good.2 fun i hi => (bdG_one hn hi).1 (h i hi), h3⟩
  · refine .inr ⟨fun hv => ?_, j, h4⟩
    have := (bdG_one hn hj).2 (valG_good.1 hv j hj)
    rw [this] at hp; cases hp
theorem gvb_run {R : Rg} (hs : szG R = true) : gvb_cond R (false, 0) = true ∧ ((valG R ∧ gvb_g R (false, 0) = (1, (false, (R.length : Int)))) ∨ (¬ valG R ∧ ∃ j : Nat, gvb_g R (false, 0) = (0, (false, (j : Int))))) := by
  have hn := sz_len hs
  obtain ⟨h1, h2⟩ := run_scan (step := gvb_step R) (St := fun i => (false, (i : Int))) (Lv := fun i => (0, (false, (i : Int)))) (t := (1, (false, (R.length : Int)))) (n := R.length) (p := fun i => !bdG R i) (fun i hi => by
    have c5 := (pre_n hi hn).1
    have c6 : decide (((Prod.snd (el_ilii R (i : Int))).length : Int) ≤ 9223372036854775807) = true := by rw [el_g hi]; exact decide_eq_true (sz_row hs hi)
    simp only [gvb_step, Tr.val, lt_t hi, nn_t, c5, c6, wi2 hi (show (R.length : Int) ≤ 9223372036854775807 by omega), Bool.and_self, Bool.cond_self, cond_true]
    rw [← bdH_eq hn hi]
    unfold bdH
    generalize fineB _ = b
    generalize (bif bif decide (Prod.fst (el_ilii R (i : Int)) < (-4096 : Int)) then true else decide (Prod.fst (el_ilii R (i : Int)) ≥ (4096 : Int)) then true else bif decide ((i : Int) > (0 : Int)) then decide (Prod.fst (el_ilii R (i : Int)) ≤ Prod.fst (el_ilii R (IntKind.wrap .i64 ((i : Int) - (1 : Int))))) else false) = c
    cases c <;> cases b <;> rfl) (by simp only [gvb_step, Tr.val, Int.lt_irrefl, decide_false, cond_false])
  refine ⟨h1, ?_⟩
  rcases h2 with ⟨h, h3⟩ | ⟨j, hj, hp, _, h4⟩
  · exact .inl ⟨valG_good.2 fun i hi => (bdG_one hn hi).1 (h i hi), h3⟩
  · refine .inr ⟨fun hv => ?_, j, h4⟩
    have := (bdG_one hn hj).2 (valG_good.1 hv j hj)
    rw [this] at hp; cases hp
set_option maxRecDepth 100000 in
theorem gvac_tree (R : (Ty.list (.prod (.int .i64) (.list (.prod (.int .i64) (.int .i64))))).den) : evalF Try.prog rgA_S57 (opens []) rgA_L59 9 48 [.ag [.d false false (.prod (.int .i64) (.list (.prod (.int .i64) (.int .i64)))) R]] = .br (((gva_cond (R, (↑(List.length R) : Int), R) (false, (0 : Int))) && (bif Nat.beq (Prod.fst (gva_g (R, (↑(List.length R) : Int), R) (false, (0 : Int)))) (0 : Nat) then true else (Nat.beq (Prod.fst (gva_g (R, (↑(List.length R) : Int), R) (false, (0 : Int)))) (1 : Nat))))) (.ret (.one (.v false (.bool (bif Nat.beq (Prod.fst (gva_g (R, (↑(List.length R) : Int), R) (false, (0 : Int)))) (0 : Nat) then Prod.fst (Prod.snd (gva_g (R, (↑(List.length R) : Int), R) (false, (0 : Int)))) else true))))) (.bad 116) := by kernel_rfl
theorem gvac_val (R : (Ty.list (.prod (.int .i64) (.list (.prod (.int .i64) (.int .i64))))).den) (hc : (szG R) = true) : (.br (((gva_cond (R, (↑(List.length R) : Int), R) (false, (0 : Int))) && (bif Nat.beq (Prod.fst (gva_g (R, (↑(List.length R) : Int), R) (false, (0 : Int)))) (0 : Nat) then true else (Nat.beq (Prod.fst (gva_g (R, (↑(List.length R) : Int), R) (false, (0 : Int)))) (1 : Nat))))) (.ret (.one (.v false (.bool (bif Nat.beq (Prod.fst (gva_g (R, (↑(List.length R) : Int), R) (false, (0 : Int)))) (0 : Nat) then Prod.fst (Prod.snd (gva_g (R, (↑(List.length R) : Int), R) (false, (0 : Int)))) else true))))) (.bad 116) : Tr AV).val = some (.one (.v false (.bool (valGB R)))) := by
  obtain ⟨K, rfl⟩ : ∃ K : Rg, K = R := ⟨R, rfl⟩
  obtain ⟨v1, v2⟩ := gva_run (R := K) hc
  show cond _ _ _ = _
  rcases v2 with ⟨h, g⟩ | ⟨h, j, g⟩
  · simp [v1, g, valGB_t h, Nat.beq, Tr.val]
  · simp [v1, g, valGB_f h, Nat.beq, Tr.val]
noncomputable def gvac_g : List AV → Option (Tr AV)
  | [.ag [.d _ _ (.prod (.int .i64) (.list (.prod (.int .i64) (.int .i64)))) R]] => some (.br (szG R) (.ret (.one (.v false (.bool (valGB R))))) (.bad 900))
  | _ => none
set_option maxHeartbeats 4000000 in
theorem gvac_ok : FunOK Try.prog 48 gvac_g := by
  refine fun_ok (by kernel_rfl) (rgA_S57_ok) (rgA_L59_ok) 9 (On := (opens [])) (fun args t h => ?_)
  unfold gvac_g at h
  split at h
  · rename_i _ _ R
    simp only [Option.some.injEq] at h
    subst h
    refine ⟨[.ag [.d false false (.prod (.int .i64) (.list (.prod (.int .i64) (.int .i64)))) R]], rfl, fun fr w us h => h, fun r hr => ?_⟩
    obtain ⟨hc, hr⟩ := br_bad hr
    simp only [Tr.val, Option.some.injEq] at hr
    subst hr
    rw [gvac_tree]
    exact gvac_val R hc
  · cases h
noncomputable def rgB_S51 : Sums := addS 48 gvac_g rgA_S57
theorem rgB_S51_ok : SumOK Try.prog rgB_S51 := addS_ok (gvac_ok) (rgA_S57_ok)
set_option maxRecDepth 100000 in
theorem gvbc_tree (R : (Ty.list (.prod (.int .i64) (.list (.prod (.int .i64) (.int .i64))))).den) : evalF Try.prog rgB_S51 (opens []) rgA_L59 9 27 [.ag [.d false false (.prod (.int .i64) (.list (.prod (.int .i64) (.int .i64)))) R]] = .br (((gvb_cond R (false, (0 : Int))) && (bif Nat.beq (Prod.fst (gvb_g R (false, (0 : Int)))) (0 : Nat) then true else (Nat.beq (Prod.fst (gvb_g R (false, (0 : Int)))) (1 : Nat))))) (.ret (.one (.v false (.bool (bif Nat.beq (Prod.fst (gvb_g R (false, (0 : Int)))) (0 : Nat) then Prod.fst (Prod.snd (gvb_g R (false, (0 : Int)))) else true))))) (.bad 116) := by kernel_rfl
theorem gvbc_val (R : (Ty.list (.prod (.int .i64) (.list (.prod (.int .i64) (.int .i64))))).den) (hc : (szG R) = true) : (.br (((gvb_cond R (false, (0 : Int))) && (bif Nat.beq (Prod.fst (gvb_g R (false, (0 : Int)))) (0 : Nat) then true else (Nat.beq (Prod.fst (gvb_g R (false, (0 : Int)))) (1 : Nat))))) (.ret (.one (.v false (.bool (bif Nat.beq (Prod.fst (gvb_g R (false, (0 : Int)))) (0 : Nat) then Prod.fst (Prod.snd (gvb_g R (false, (0 : Int)))) else true))))) (.bad 116) : Tr AV).val = some (.one (.v false (.bool (valGB R)))) := by
  obtain ⟨K, rfl⟩ : ∃ K : Rg, K = R := ⟨R, rfl⟩
  obtain ⟨v1, v2⟩ := gvb_run (R := K) hc
  show cond _ _ _ = _
  rcases v2 with ⟨h, g⟩ | ⟨h, j, g⟩
  · simp [v1, g, valGB_t h, Nat.beq, Tr.val]
  · simp [v1, g, valGB_f h, Nat.beq, Tr.val]
set_option maxHeartbeats 4000000 in
theorem gvbc_ok : FunOK Try.prog 27 gvac_g := by
  refine fun_ok (by kernel_rfl) (rgB_S51_ok) (rgA_L59_ok) 9 (On := (opens [])) (fun args t h => ?_)
  unfold gvac_g at h
  split at h
  · rename_i _ _ R
    simp only [Option.some.injEq] at h
    subst h
    refine ⟨[.ag [.d false false (.prod (.int .i64) (.list (.prod (.int .i64) (.int .i64)))) R]], rfl, fun fr w us h => h, fun r hr => ?_⟩
    obtain ⟨hc, hr⟩ := br_bad hr
    simp only [Tr.val, Option.some.injEq] at hr
    subst hr
    rw [gvbc_tree]
    exact gvbc_val R hc
  · cases h
noncomputable def rgB_S52 : Sums := addS 27 gvac_g rgB_S51
theorem rgB_S52_ok : SumOK Try.prog rgB_S52 := addS_ok (gvbc_ok) (rgB_S51_ok)
abbrev ctb1_U : Type := Int × Int × (Ty.list (.prod (.int .i64) (.list (.prod (.int .i64) (.int .i64))))).den
abbrev ctb1_V : Type := Int × Int
noncomputable def ctb1_St (u : ctb1_U) (v : ctb1_V) : Stt := ⟨[.one .junk, .one (.p 0 0), .one (.v false (.int .i64 u.1)), .one (.v false (.int .i64 v.1)), .one (.v false (.int .i64 u.2.1)), .one (.v false (.int .i64 v.2)), .one .junk, .one .junk, .one .junk, .one .junk, .one .junk, .one .junk, .one .junk, .one .junk, .one .junk, .one .junk, .one .junk, .one .junk, .one .junk, .one .junk, .one .junk, .one .junk, .one .junk, .one .junk, .one .junk, .one .junk, .one .junk, .one .junk, .one .junk, .one .junk, .one .junk, .one .junk, .one .junk, .one .junk, .one .junk, .one .junk, .one .junk, .one .junk, .one .junk, .one .junk, .one .junk, .one .junk, .one .junk, .one .junk, .one .junk, .one .junk, .one .junk, .one .junk, .one .junk, .one .junk, .one .junk, .one .junk], [(0, .cells [.d false false (.prod (.int .i64) (.list (.prod (.int .i64) (.int .i64)))) u.2.2])], 2013⟩
noncomputable def ctb1_step (u : ctb1_U) (v : ctb1_V) : Tr (ctb1_V ⊕ (Nat × ctb1_V)) :=
  match u, v with
  | (_, q2, q4), (q1, q3) => .br (decide ((0 : Int) ≤ q2) && decide (q2 < (↑(List.length q4) : Int))) (.br (decide (q3 < (↑(List.length (Prod.snd (el_ilii q4 q2))) : Int))) (.br (decide ((0 : Int) ≤ q2) && decide (q2 < (↑(List.length q4) : Int))) (.br (decide ((0 : Int) ≤ q3) && decide (q3 < (↑(List.length (Prod.snd (el_ilii q4 q2))) : Int))) (.br (decide ((0 : Int) ≤ q2) && decide (q2 < (↑(List.length q4) : Int))) (.br (decide ((0 : Int) ≤ q3) && decide (q3 < (↑(List.length (Prod.snd (el_ilii q4 q2))) : Int))) (.ret (.inl (IntKind.wrap .i64 (q1 + IntKind.wrap .i64 (Prod.snd (el_ii (Prod.snd (el_ilii q4 q2)) q3) - Prod.fst (el_ii (Prod.snd (el_ilii q4 q2)) q3))), IntKind.wrap .i64 (q3 + (1 : Int))))) (.bad 29)) (.bad 29)) (.bad 29)) (.bad 29)) (.ret (.inr (0, (q1, q3))))) (.bad 29)
set_option maxRecDepth 100000 in
set_option maxHeartbeats 4000000 in
theorem ctb1_step_eq : ∀ (u : ctb1_U) (v : ctb1_V), (evalC Try.prog (evalB Try.prog rgB_S52 (opens []) rgA_L59 7).1 (evalB Try.prog rgB_S52 (opens []) rgA_L59 7).2 (opens []) (rgA_L59 38) 100000 (0 :: [0, 1, 0, 0, 1, 0, 0, 1, 0, 1, 1, 1]) (loopOf (bodyOf Try.prog 38) [1, 1, 1, 0, 1, 0, 0, 1, 0, 0, 1, 0]) (ctb1_St u v) []).bind (finF [0, 6, 7, 8, 9, 10, 11, 12, 13, 14, 15, 16, 17, 18, 19, 20, 21, 22, 23, 24, 25, 26, 27, 28, 29, 30, 31, 32, 33, 34, 35, 36, 37, 38, 39, 40, 41, 42, 43, 44, 45, 46, 47, 48, 49, 50, 51] [] [0] [] 2013) = (ctb1_step u v).bind (outA (ctb1_St u) [.exit 2]) := by
  rintro ⟨q0, q2, q4⟩ ⟨q1, q3⟩
  kernel_rfl
noncomputable def ctb1_rd (b : Bool) (o1 : Option AV) (o2 : Option AV) (o3 : Option AV) (o4 : Option AV) (o5 : Option AV) (own : Own) : Option (ctb1_U × ctb1_V) := zrT b <| zrO o1 fun za1 => zrA1 za1 fun zc2 => zrP 0 0 zc2 <| zrO o2 fun za3 => zrA1 za3 fun zc4 => zrI .i64 zc4 fun q0 => zrO o3 fun za5 => zrA1 za5 fun zc6 => zrI .i64 zc6 fun q1 => zrO o4 fun za7 => zrA1 za7 fun zc8 => zrI .i64 zc8 fun q2 => zrO o5 fun za9 => zrA1 za9 fun zc10 => zrI .i64 zc10 fun q3 => zrL own fun zq11 zw12 => zrKey 0 zq11 fun zk13 => zrC zk13 fun zl14 => zrL zl14 fun zc15 zr16 => zrD (.prod (.int .i64) (.list (.prod (.int .i64) (.int .i64)))) zc15 fun q4 => zrN zr16 <| zrN zw12 <| some ((q0, q2, q4), (q1, q3))
noncomputable def ctb1_can (st : Stt) : Stt := canA [0, 6, 7, 8, 9, 10, 11, 12, 13, 14, 15, 16, 17, 18, 19, 20, 21, 22, 23, 24, 25, 26, 27, 28, 29, 30, 31, 32, 33, 34, 35, 36, 37, 38, 39, 40, 41, 42, 43, 44, 45, 46, 47, 48, 49, 50, 51] [] [0] [] 2013 st
noncomputable def ctb1_cok (st : Stt) : Bool := canAok [0, 6, 7, 8, 9, 10, 11, 12, 13, 14, 15, 16, 17, 18, 19, 20, 21, 22, 23, 24, 25, 26, 27, 28, 29, 30, 31, 32, 33, 34, 35, 36, 37, 38, 39, 40, 41, 42, 43, 44, 45, 46, 47, 48, 49, 50, 51] [] [0] [] 2013 st
noncomputable def ctb1_read (st : Stt) : Option (ctb1_U × ctb1_V) := ctb1_rd (ctb1_cok st && (staysA [] [0] st.own && juAll [0, 6, 7, 8, 9, 10, 11, 12, 13, 14, 15, 16, 17, 18, 19, 20, 21, 22, 23, 24, 25, 26, 27, 28, 29, 30, 31, 32, 33, 34, 35, 36, 37, 38, 39, 40, 41, 42, 43, 44, 45, 46, 47, 48, 49, 50, 51] (ctb1_can st).tm 52)) (ctb1_can st).tm[1]? (ctb1_can st).tm[2]? (ctb1_can st).tm[3]? (ctb1_can st).tm[4]? (ctb1_can st).tm[5]? (ctb1_can st).own
set_option maxRecDepth 100000 in
set_option maxHeartbeats 4000000 in
theorem ctb1_rd_ok {b : Bool} {tm : List AV} {own : Own} {u : ctb1_U} {v : ctb1_V} (hj : b = true → juAll [0, 6, 7, 8, 9, 10, 11, 12, 13, 14, 15, 16, 17, 18, 19, 20, 21, 22, 23, 24, 25, 26, 27, 28, 29, 30, 31, 32, 33, 34, 35, 36, 37, 38, 39, 40, 41, 42, 43, 44, 45, 46, 47, 48, 49, 50, 51] tm 52 = true) (h : ctb1_rd b tm[1]? tm[2]? tm[3]? tm[4]? tm[5]? own = some (u, v)) : b = true ∧ tm = (ctb1_St u v).tm ∧ own = (ctb1_St u v).own := by
  unfold ctb1_rd at h
  obtain ⟨rfl, h0⟩ := zrT_some h
  obtain ⟨za1, e1, h1⟩ := zrO_some h0
  obtain ⟨zc2, rfl, h2⟩ := zrA1_some h1
  obtain ⟨rfl, h3⟩ := zrP_some h2
  obtain ⟨za3, e2, h4⟩ := zrO_some h3
  obtain ⟨zc4, rfl, h5⟩ := zrA1_some h4
  obtain ⟨q0, rfl, h6⟩ := zrI_some h5
  obtain ⟨za5, e3, h7⟩ := zrO_some h6
  obtain ⟨zc6, rfl, h8⟩ := zrA1_some h7
  obtain ⟨q1, rfl, h9⟩ := zrI_some h8
  obtain ⟨za7, e4, h10⟩ := zrO_some h9
  obtain ⟨zc8, rfl, h11⟩ := zrA1_some h10
  obtain ⟨q2, rfl, h12⟩ := zrI_some h11
  obtain ⟨za9, e5, h13⟩ := zrO_some h12
  obtain ⟨zc10, rfl, h14⟩ := zrA1_some h13
  obtain ⟨q3, rfl, h15⟩ := zrI_some h14
  obtain ⟨zq11, zw12, rfl, h16⟩ := zrL_some h15
  obtain ⟨zk13, rfl, h17⟩ := zrKey_some h16
  obtain ⟨zl14, rfl, h18⟩ := zrC_some h17
  obtain ⟨zc15, zr16, rfl, h19⟩ := zrL_some h18
  obtain ⟨q4, rfl, h20⟩ := zrD_some h19
  obtain ⟨rfl, h21⟩ := zrN_some h20
  obtain ⟨rfl, h22⟩ := zrN_some h21
  have h := Option.some.inj h22
  have hu := congrArg Prod.fst h
  have hv := congrArg Prod.snd h
  dsimp only at hu hv
  subst hu
  subst hv
  exact ⟨rfl, (tm_fill (hj rfl) (Lv := [(1, .one (.p 0 0)), (2, .one (.v false (.int .i64 q0))), (3, .one (.v false (.int .i64 q1))), (4, .one (.v false (.int .i64 q2))), (5, .one (.v false (.int .i64 q3)))]) (by kernel_rfl) ⟨e1, e2, e3, e4, e5, trivial⟩).trans (by kernel_rfl), rfl⟩
theorem ctb1_read_ok (st : Stt) (u : ctb1_U) (v : ctb1_V) (h : ctb1_read st = some (u, v)) : ctb1_cok st = true ∧ staysA [] [0] st.own = true ∧ ctb1_can st = ctb1_St u v := by
  obtain ⟨h1, h2, h3⟩ := ctb1_rd_ok (fun hb => by rw [Bool.and_eq_true, Bool.and_eq_true] at hb; exact hb.2.2) h
  rw [Bool.and_eq_true, Bool.and_eq_true] at h1
  refine ⟨h1.1, h1.2.1, ?_⟩
  have e : ctb1_can st = ⟨(ctb1_can st).tm, (ctb1_can st).own, 2013⟩ := by kernel_rfl
  rw [e, h2, h3]
  rfl
noncomputable def ctb1_cond (u : ctb1_U) (v : ctb1_V) : Bool := runC (ctb1_step u) v
noncomputable def ctb1_g (u : ctb1_U) (v : ctb1_V) : Nat × ctb1_V := runG (ctb1_step u) v
theorem ctb1_hg : ∀ (u : ctb1_U) (v : ctb1_V), ctb1_cond u v = true → loopN (ctb1_step u) ((fun u v => runF (ctb1_step u) v) u v) v = some (ctb1_g u v) := by
  exact fun u v h => run_hg h
noncomputable def ctb1_m (st : Stt) : Option (Tr (Ex × Stt)) := sumM ctb1_read ctb1_cond ctb1_St ctb1_g [(0, .exit 2)] st
noncomputable def rgB_L53 : FuncId → Loops := addL 38 [0, 1, 0, 0, 1, 0, 0, 1, 0, 1, 1, 1] ctb1_m rgA_L59
set_option maxRecDepth 100000 in
set_option maxHeartbeats 4000000 in
theorem rgB_L53_ok : LoopsOK Try.prog rgB_L53 :=
  loop_sumF (body := (bodyOf Try.prog 38)) (c := (loopOf (bodyOf Try.prog 38) [1, 1, 1, 0, 1, 0, 0, 1, 0, 0, 1, 0])) (kinds := [.exit 2]) (allow := [(0, .exit 2)]) (St := ctb1_St) (step := ctb1_step) (W := [0, 6, 7, 8, 9, 10, 11, 12, 13, 14, 15, 16, 17, 18, 19, 20, 21, 22, 23, 24, 25, 26, 27, 28, 29, 30, 31, 32, 33, 34, 35, 36, 37, 38, 39, 40, 41, 42, 43, 44, 45, 46, 47, 48, 49, 50, 51]) (As := []) (ks := [0]) (dd := []) (nx := 2013) (n := 100000) (g := ctb1_g) (cond := ctb1_cond) (fuel := (fun u v => runF (ctb1_step u) v)) (read := ctb1_read) (by kernel_rfl) (rgB_S52_ok) (rgA_L59_ok) 7 ⟨Try.f38, by kernel_rfl, by kernel_rfl⟩ (by kernel_rfl) (by kernel_rfl) (by kernel_rfl) ctb1_step_eq ctb1_hg ctb1_read_ok
abbrev ctb0_U : Type := Int × (Ty.list (.prod (.int .i64) (.list (.prod (.int .i64) (.int .i64))))).den
noncomputable def ctb0_St (u : ctb0_U) (v : ctb1_V) : Stt := ⟨[.one .junk, .one (.p 0 0), .one (.v false (.int .i64 u.1)), .one (.v false (.int .i64 v.1)), .one (.v false (.int .i64 v.2)), .one .junk, .one .junk, .one .junk, .one .junk, .one .junk, .one .junk, .one .junk, .one .junk, .one .junk, .one .junk, .one .junk, .one .junk, .one .junk, .one .junk, .one .junk, .one .junk, .one .junk, .one .junk, .one .junk, .one .junk, .one .junk, .one .junk, .one .junk, .one .junk, .one .junk, .one .junk, .one .junk, .one .junk, .one .junk, .one .junk, .one .junk, .one .junk, .one .junk, .one .junk, .one .junk, .one .junk, .one .junk, .one .junk, .one .junk, .one .junk, .one .junk, .one .junk, .one .junk, .one .junk, .one .junk, .one .junk, .one .junk], [(0, .cells [.d false false (.prod (.int .i64) (.list (.prod (.int .i64) (.int .i64)))) u.2])], 1007⟩
noncomputable def ctb0_step (u : ctb0_U) (v : ctb1_V) : Tr (ctb1_V ⊕ (Nat × ctb1_V)) :=
  match u, v with
  | (q0, q3), (q1, q2) => .br (decide (q2 < (↑(List.length q3) : Int))) (.br (ctb1_cond (q0, q2, q3) (q1, (0 : Int))) (.br (Nat.beq (Prod.fst (ctb1_g (q0, q2, q3) (q1, (0 : Int)))) (0 : Nat)) (.ret (.inl (Prod.fst (Prod.snd (ctb1_g (q0, q2, q3) (q1, (0 : Int)))), IntKind.wrap .i64 (q2 + (1 : Int))))) (.bad 902)) (.bad 901)) (.ret (.inr (0, (q1, q2))))
set_option maxRecDepth 100000 in
set_option maxHeartbeats 4000000 in
theorem ctb0_step_eq : ∀ (u : ctb0_U) (v : ctb1_V), (evalC Try.prog (evalB Try.prog rgB_S52 (opens []) rgB_L53 7).1 (evalB Try.prog rgB_S52 (opens []) rgB_L53 7).2 (opens []) (rgB_L53 38) 100000 (0 :: [0, 1, 0, 1, 1, 1]) (loopOf (bodyOf Try.prog 38) [1, 1, 1, 0, 1, 0]) (ctb0_St u v) []).bind (finF [0, 5, 6, 7, 8, 9, 10, 11, 12, 13, 14, 15, 16, 17, 18, 19, 20, 21, 22, 23, 24, 25, 26, 27, 28, 29, 30, 31, 32, 33, 34, 35, 36, 37, 38, 39, 40, 41, 42, 43, 44, 45, 46, 47, 48, 49, 50, 51] [] [0] [] 1007) = (ctb0_step u v).bind (outA (ctb0_St u) [.exit 0]) := by
  rintro ⟨q0, q3⟩ ⟨q1, q2⟩
  kernel_rfl
noncomputable def ctb0_rd (b : Bool) (o1 : Option AV) (o2 : Option AV) (o3 : Option AV) (o4 : Option AV) (own : Own) : Option (ctb0_U × ctb1_V) := zrT b <| zrO o1 fun za1 => zrA1 za1 fun zc2 => zrP 0 0 zc2 <| zrO o2 fun za3 => zrA1 za3 fun zc4 => zrI .i64 zc4 fun q0 => zrO o3 fun za5 => zrA1 za5 fun zc6 => zrI .i64 zc6 fun q1 => zrO o4 fun za7 => zrA1 za7 fun zc8 => zrI .i64 zc8 fun q2 => zrL own fun zq9 zw10 => zrKey 0 zq9 fun zk11 => zrC zk11 fun zl12 => zrL zl12 fun zc13 zr14 => zrD (.prod (.int .i64) (.list (.prod (.int .i64) (.int .i64)))) zc13 fun q3 => zrN zr14 <| zrN zw10 <| some ((q0, q3), (q1, q2))
noncomputable def ctb0_can (st : Stt) : Stt := canA [0, 5, 6, 7, 8, 9, 10, 11, 12, 13, 14, 15, 16, 17, 18, 19, 20, 21, 22, 23, 24, 25, 26, 27, 28, 29, 30, 31, 32, 33, 34, 35, 36, 37, 38, 39, 40, 41, 42, 43, 44, 45, 46, 47, 48, 49, 50, 51] [] [0] [] 1007 st
noncomputable def ctb0_cok (st : Stt) : Bool := canAok [0, 5, 6, 7, 8, 9, 10, 11, 12, 13, 14, 15, 16, 17, 18, 19, 20, 21, 22, 23, 24, 25, 26, 27, 28, 29, 30, 31, 32, 33, 34, 35, 36, 37, 38, 39, 40, 41, 42, 43, 44, 45, 46, 47, 48, 49, 50, 51] [] [0] [] 1007 st
noncomputable def ctb0_read (st : Stt) : Option (ctb0_U × ctb1_V) := ctb0_rd (ctb0_cok st && (staysA [] [0] st.own && juAll [0, 5, 6, 7, 8, 9, 10, 11, 12, 13, 14, 15, 16, 17, 18, 19, 20, 21, 22, 23, 24, 25, 26, 27, 28, 29, 30, 31, 32, 33, 34, 35, 36, 37, 38, 39, 40, 41, 42, 43, 44, 45, 46, 47, 48, 49, 50, 51] (ctb0_can st).tm 52)) (ctb0_can st).tm[1]? (ctb0_can st).tm[2]? (ctb0_can st).tm[3]? (ctb0_can st).tm[4]? (ctb0_can st).own
set_option maxRecDepth 100000 in
set_option maxHeartbeats 4000000 in
theorem ctb0_rd_ok {b : Bool} {tm : List AV} {own : Own} {u : ctb0_U} {v : ctb1_V} (hj : b = true → juAll [0, 5, 6, 7, 8, 9, 10, 11, 12, 13, 14, 15, 16, 17, 18, 19, 20, 21, 22, 23, 24, 25, 26, 27, 28, 29, 30, 31, 32, 33, 34, 35, 36, 37, 38, 39, 40, 41, 42, 43, 44, 45, 46, 47, 48, 49, 50, 51] tm 52 = true) (h : ctb0_rd b tm[1]? tm[2]? tm[3]? tm[4]? own = some (u, v)) : b = true ∧ tm = (ctb0_St u v).tm ∧ own = (ctb0_St u v).own := by
  unfold ctb0_rd at h
  obtain ⟨rfl, h0⟩ := zrT_some h
  obtain ⟨za1, e1, h1⟩ := zrO_some h0
  obtain ⟨zc2, rfl, h2⟩ := zrA1_some h1
  obtain ⟨rfl, h3⟩ := zrP_some h2
  obtain ⟨za3, e2, h4⟩ := zrO_some h3
  obtain ⟨zc4, rfl, h5⟩ := zrA1_some h4
  obtain ⟨q0, rfl, h6⟩ := zrI_some h5
  obtain ⟨za5, e3, h7⟩ := zrO_some h6
  obtain ⟨zc6, rfl, h8⟩ := zrA1_some h7
  obtain ⟨q1, rfl, h9⟩ := zrI_some h8
  obtain ⟨za7, e4, h10⟩ := zrO_some h9
  obtain ⟨zc8, rfl, h11⟩ := zrA1_some h10
  obtain ⟨q2, rfl, h12⟩ := zrI_some h11
  obtain ⟨zq9, zw10, rfl, h13⟩ := zrL_some h12
  obtain ⟨zk11, rfl, h14⟩ := zrKey_some h13
  obtain ⟨zl12, rfl, h15⟩ := zrC_some h14
  obtain ⟨zc13, zr14, rfl, h16⟩ := zrL_some h15
  obtain ⟨q3, rfl, h17⟩ := zrD_some h16
  obtain ⟨rfl, h18⟩ := zrN_some h17
  obtain ⟨rfl, h19⟩ := zrN_some h18
  have h := Option.some.inj h19
  have hu := congrArg Prod.fst h
  have hv := congrArg Prod.snd h
  dsimp only at hu hv
  subst hu
  subst hv
  exact ⟨rfl, (tm_fill (hj rfl) (Lv := [(1, .one (.p 0 0)), (2, .one (.v false (.int .i64 q0))), (3, .one (.v false (.int .i64 q1))), (4, .one (.v false (.int .i64 q2)))]) (by kernel_rfl) ⟨e1, e2, e3, e4, trivial⟩).trans (by kernel_rfl), rfl⟩
theorem ctb0_read_ok (st : Stt) (u : ctb0_U) (v : ctb1_V) (h : ctb0_read st = some (u, v)) : ctb0_cok st = true ∧ staysA [] [0] st.own = true ∧ ctb0_can st = ctb0_St u v := by
  obtain ⟨h1, h2, h3⟩ := ctb0_rd_ok (fun hb => by rw [Bool.and_eq_true, Bool.and_eq_true] at hb; exact hb.2.2) h
  rw [Bool.and_eq_true, Bool.and_eq_true] at h1
  refine ⟨h1.1, h1.2.1, ?_⟩
  have e : ctb0_can st = ⟨(ctb0_can st).tm, (ctb0_can st).own, 1007⟩ := by kernel_rfl
  rw [e, h2, h3]
  rfl
noncomputable def ctb0_cond (u : ctb0_U) (v : ctb1_V) : Bool := runC (ctb0_step u) v
noncomputable def ctb0_g (u : ctb0_U) (v : ctb1_V) : Nat × ctb1_V := runG (ctb0_step u) v
theorem ctb0_hg : ∀ (u : ctb0_U) (v : ctb1_V), ctb0_cond u v = true → loopN (ctb0_step u) ((fun u v => runF (ctb0_step u) v) u v) v = some (ctb0_g u v) := by
  exact fun u v h => run_hg h
noncomputable def ctb0_m (st : Stt) : Option (Tr (Ex × Stt)) := sumM ctb0_read ctb0_cond ctb0_St ctb0_g [(0, .exit 0)] st
noncomputable def rgB_L54 : FuncId → Loops := addL 38 [0, 1, 0, 1, 1, 1] ctb0_m rgB_L53
set_option maxRecDepth 100000 in
set_option maxHeartbeats 4000000 in
theorem rgB_L54_ok : LoopsOK Try.prog rgB_L54 :=
  loop_sumF (body := (bodyOf Try.prog 38)) (c := (loopOf (bodyOf Try.prog 38) [1, 1, 1, 0, 1, 0])) (kinds := [.exit 0]) (allow := [(0, .exit 0)]) (St := ctb0_St) (step := ctb0_step) (W := [0, 5, 6, 7, 8, 9, 10, 11, 12, 13, 14, 15, 16, 17, 18, 19, 20, 21, 22, 23, 24, 25, 26, 27, 28, 29, 30, 31, 32, 33, 34, 35, 36, 37, 38, 39, 40, 41, 42, 43, 44, 45, 46, 47, 48, 49, 50, 51]) (As := []) (ks := [0]) (dd := []) (nx := 1007) (n := 100000) (g := ctb0_g) (cond := ctb0_cond) (fuel := (fun u v => runF (ctb0_step u) v)) (read := ctb0_read) (by kernel_rfl) (rgB_S52_ok) (rgB_L53_ok) 7 ⟨Try.f38, by kernel_rfl, by kernel_rfl⟩ (by kernel_rfl) (by kernel_rfl) (by kernel_rfl) ctb0_step_eq ctb0_hg ctb0_read_ok
noncomputable def rgB_L55 : FuncId → Loops := rgB_L54
set_option maxRecDepth 100000 in
set_option maxHeartbeats 4000000 in
theorem rgB_L55_ok : LoopsOK Try.prog rgB_L55 := rgB_L54_ok
noncomputable def rgB_L56 : FuncId → Loops := rgB_L55
set_option maxRecDepth 100000 in
set_option maxHeartbeats 4000000 in
theorem rgB_L56_ok : LoopsOK Try.prog rgB_L56 := rgB_L55_ok
noncomputable def seq_St (u : va_U) (v : va_V) : Stt := ⟨[.one (.d false false (.prod (.int .i64) (.int .i64)) u.1), .one (.d false false (.prod (.int .i64) (.int .i64)) u.2.1), .one .junk, .one .junk, .one (.v false (.bool v.1)), .one .junk, .one .junk, .one .junk, .one .junk, .one .junk, .one .junk, .one .junk, .one (.v false (.int .i64 u.2.2)), .one (.v false (.int .i64 v.2)), .one .junk, .one .junk, .one .junk, .one .junk, .one .junk, .one .junk, .one .junk, .one .junk, .one .junk, .one .junk, .one .junk, .one .junk], [], 1009⟩
noncomputable def seq_step (u : va_U) (v : va_V) : Tr (va_V ⊕ (Nat × va_V)) :=
  match u, v with
  | (q0, q1, q3), (q2, q4) => .br (decide (q4 < q3)) (.br (decide ((0 : Int) ≤ q4) && decide (q4 < (↑(List.length q0) : Int))) (.br (decide ((0 : Int) ≤ q4) && decide (q4 < (↑(List.length q1) : Int))) (.br (!(Prod.fst (el_ii q0 q4) == Prod.fst (el_ii q1 q4) && (Prod.snd (el_ii q0 q4) == Prod.snd (el_ii q1 q4) && true))) (.ret (.inr (0, (false, q4)))) (.ret (.inl (q2, IntKind.wrap .i64 (q4 + (1 : Int)))))) (.bad 29)) (.bad 29)) (.ret (.inr (1, (q2, q4))))
set_option maxRecDepth 100000 in
set_option maxHeartbeats 4000000 in
theorem seq_step_eq : ∀ (u : va_U) (v : va_V), (evalC Try.prog (evalB Try.prog rgB_S52 (opens []) rgB_L56 7).1 (evalB Try.prog rgB_S52 (opens []) rgB_L56 7).2 (opens []) (rgB_L56 63) 100000 (0 :: [0, 1, 0, 1, 1]) (loopOf (bodyOf Try.prog 63) [1, 1, 0, 1, 0]) (seq_St u v) []).bind (finF [2, 3, 5, 6, 7, 8, 9, 10, 11, 14, 15, 16, 17, 18, 19, 20, 21, 22, 23, 24, 25] [] [] [] 1009) = (seq_step u v).bind (outA (seq_St u) [.ret, .exit 0]) := by
  rintro ⟨q0, q1, q3⟩ ⟨q2, q4⟩
  kernel_rfl
noncomputable def seq_rd (b : Bool) (o0 : Option AV) (o1 : Option AV) (o4 : Option AV) (o12 : Option AV) (o13 : Option AV) (own : Own) : Option (va_U × va_V) := zrT b <| zrO o0 fun za1 => zrA1 za1 fun zc2 => zrD (.prod (.int .i64) (.int .i64)) zc2 fun q0 => zrO o1 fun za3 => zrA1 za3 fun zc4 => zrD (.prod (.int .i64) (.int .i64)) zc4 fun q1 => zrO o4 fun za5 => zrA1 za5 fun zc6 => zrB zc6 fun q2 => zrO o12 fun za7 => zrA1 za7 fun zc8 => zrI .i64 zc8 fun q3 => zrO o13 fun za9 => zrA1 za9 fun zc10 => zrI .i64 zc10 fun q4 => zrN own <| some ((q0, q1, q3), (q2, q4))
noncomputable def seq_can (st : Stt) : Stt := canA [2, 3, 5, 6, 7, 8, 9, 10, 11, 14, 15, 16, 17, 18, 19, 20, 21, 22, 23, 24, 25] [] [] [] 1009 st
noncomputable def seq_cok (st : Stt) : Bool := canAok [2, 3, 5, 6, 7, 8, 9, 10, 11, 14, 15, 16, 17, 18, 19, 20, 21, 22, 23, 24, 25] [] [] [] 1009 st
noncomputable def seq_read (st : Stt) : Option (va_U × va_V) := seq_rd (seq_cok st && (staysA [] [] st.own && juAll [2, 3, 5, 6, 7, 8, 9, 10, 11, 14, 15, 16, 17, 18, 19, 20, 21, 22, 23, 24, 25] (seq_can st).tm 26)) (seq_can st).tm[0]? (seq_can st).tm[1]? (seq_can st).tm[4]? (seq_can st).tm[12]? (seq_can st).tm[13]? (seq_can st).own
set_option maxRecDepth 100000 in
set_option maxHeartbeats 4000000 in
theorem seq_rd_ok {b : Bool} {tm : List AV} {own : Own} {u : va_U} {v : va_V} (hj : b = true → juAll [2, 3, 5, 6, 7, 8, 9, 10, 11, 14, 15, 16, 17, 18, 19, 20, 21, 22, 23, 24, 25] tm 26 = true) (h : seq_rd b tm[0]? tm[1]? tm[4]? tm[12]? tm[13]? own = some (u, v)) : b = true ∧ tm = (seq_St u v).tm ∧ own = (seq_St u v).own := by
  unfold seq_rd at h
  obtain ⟨rfl, h0⟩ := zrT_some h
  obtain ⟨za1, e0, h1⟩ := zrO_some h0
  obtain ⟨zc2, rfl, h2⟩ := zrA1_some h1
  obtain ⟨q0, rfl, h3⟩ := zrD_some h2
  obtain ⟨za3, e1, h4⟩ := zrO_some h3
  obtain ⟨zc4, rfl, h5⟩ := zrA1_some h4
  obtain ⟨q1, rfl, h6⟩ := zrD_some h5
  obtain ⟨za5, e4, h7⟩ := zrO_some h6
  obtain ⟨zc6, rfl, h8⟩ := zrA1_some h7
  obtain ⟨q2, rfl, h9⟩ := zrB_some h8
  obtain ⟨za7, e12, h10⟩ := zrO_some h9
  obtain ⟨zc8, rfl, h11⟩ := zrA1_some h10
  obtain ⟨q3, rfl, h12⟩ := zrI_some h11
  obtain ⟨za9, e13, h13⟩ := zrO_some h12
  obtain ⟨zc10, rfl, h14⟩ := zrA1_some h13
  obtain ⟨q4, rfl, h15⟩ := zrI_some h14
  obtain ⟨rfl, h16⟩ := zrN_some h15
  have h := Option.some.inj h16
  have hu := congrArg Prod.fst h
  have hv := congrArg Prod.snd h
  dsimp only at hu hv
  subst hu
  subst hv
  exact ⟨rfl, (tm_fill (hj rfl) (Lv := [(0, .one (.d false false (.prod (.int .i64) (.int .i64)) q0)), (1, .one (.d false false (.prod (.int .i64) (.int .i64)) q1)), (4, .one (.v false (.bool q2))), (12, .one (.v false (.int .i64 q3))), (13, .one (.v false (.int .i64 q4)))]) (by kernel_rfl) ⟨e0, e1, e4, e12, e13, trivial⟩).trans (by kernel_rfl), rfl⟩
theorem seq_read_ok (st : Stt) (u : va_U) (v : va_V) (h : seq_read st = some (u, v)) : seq_cok st = true ∧ staysA [] [] st.own = true ∧ seq_can st = seq_St u v := by
  obtain ⟨h1, h2, h3⟩ := seq_rd_ok (fun hb => by rw [Bool.and_eq_true, Bool.and_eq_true] at hb; exact hb.2.2) h
  rw [Bool.and_eq_true, Bool.and_eq_true] at h1
  refine ⟨h1.1, h1.2.1, ?_⟩
  have e : seq_can st = ⟨(seq_can st).tm, (seq_can st).own, 1009⟩ := by kernel_rfl
  rw [e, h2, h3]
  rfl
noncomputable def seq_cond (u : va_U) (v : va_V) : Bool := runC (seq_step u) v
noncomputable def seq_g (u : va_U) (v : va_V) : Nat × va_V := runG (seq_step u) v
theorem seq_hg : ∀ (u : va_U) (v : va_V), seq_cond u v = true → loopN (seq_step u) ((fun u v => runF (seq_step u) v) u v) v = some (seq_g u v) := by
  exact fun u v h => run_hg h
noncomputable def seq_m (st : Stt) : Option (Tr (Ex × Stt)) := sumM seq_read seq_cond seq_St seq_g [(0, .ret), (1, .exit 0)] st
noncomputable def rgB_L57 : FuncId → Loops := addL 63 [0, 1, 0, 1, 1] seq_m rgB_L56
set_option maxRecDepth 100000 in
set_option maxHeartbeats 4000000 in
theorem rgB_L57_ok : LoopsOK Try.prog rgB_L57 :=
  loop_sumF (body := (bodyOf Try.prog 63)) (c := (loopOf (bodyOf Try.prog 63) [1, 1, 0, 1, 0])) (kinds := [.ret, .exit 0]) (allow := [(0, .ret), (1, .exit 0)]) (St := seq_St) (step := seq_step) (W := [2, 3, 5, 6, 7, 8, 9, 10, 11, 14, 15, 16, 17, 18, 19, 20, 21, 22, 23, 24, 25]) (As := []) (ks := []) (dd := []) (nx := 1009) (n := 100000) (g := seq_g) (cond := seq_cond) (fuel := (fun u v => runF (seq_step u) v)) (read := seq_read) (by kernel_rfl) (rgB_S52_ok) (rgB_L56_ok) 7 ⟨Try.f63, by kernel_rfl, by kernel_rfl⟩ (by kernel_rfl) (by kernel_rfl) (by kernel_rfl) seq_step_eq seq_hg seq_read_ok
theorem eq2 (a b : Int × Int) : (a.1 == b.1 && (a.2 == b.2 && true)) = decide (a = b) := by
  obtain ⟨a1, a2⟩ := a
  obtain ⟨b1, b2⟩ := b
  rw [Bool.eq_iff_iff]
  simp
theorem ctb1_run {R : Rg} {i : Nat} (h : valG R) (hi : i < R.length) {c : Int} (c0 : 0 ≤ c) (c1 : c ≤ 100000000000) : ctb1_cond (0, (i : Int), R) (c, 0) = true ∧ ctb1_g (0, (i : Int), R) (c, 0) = (0, (c + lenR R[i].2, (R[i].2.length : Int))) := by
  have g := Ng.rows h _ (List.getElem_mem hi)
  have hv := rowOk_val g
  have hl := row_len g
  have R1 := run_steps (step := ctb1_step (0, (i : Int), R)) (St := fun j => (c + lenR (R[i].2.take j), (j : Int))) (n := R[i].2.length) (t := (0, (c + lenR R[i].2, (R[i].2.length : Int)))) (by
    simp only [ctb1_step, Tr.val, lt_t hi, nn_t, el_g hi, Bool.and_self, cond_true, Int.lt_irrefl, decide_false, cond_false, List.take_length]) R[i].2.length 0 (Nat.zero_add _) (fun j _ hj => by
    have g := good_in hv hj
    have b := lenR_bd hv j (by omega)
    have w2 : IntKind.wrap .i64 (R[i].2[j].2 - R[i].2[j].1) = R[i].2[j].2 - R[i].2[j].1 := wid (by omega) (by omega)
    have w3 : IntKind.wrap .i64 (c + lenR (R[i].2.take j) + (R[i].2[j].2 - R[i].2[j].1)) = c + (lenR (R[i].2.take j) + (R[i].2[j].2 - R[i].2[j].1)) := by rw [wid (by omega) (by omega)]; omega
    rw [lenR_take hj]
    simp only [ctb1_step, Tr.val, lt_t hi, lt_t hj, nn_t, el_g hi, el_r hj, w2, w3, wi1 hj (show (R[i].2.length : Int) ≤ 9223372036854775806 by omega), Bool.and_self, cond_true])
  have e : c + lenR (R[i].2.take 0) = c := by show c + 0 = c; omega
  simp only [e] at R1
  exact R1
theorem ctb0_run {R : Rg} (h : valG R) : ctb0_cond (0, R) (0, 0) = true ∧ ctb0_g (0, R) (0, 0) = (0, (cntG R, (R.length : Int))) := by
  have hn := ng_len h (by omega)
  have R1 := run_steps (step := ctb0_step (0, R)) (St := fun j => (cntG (R.take j), (j : Int))) (n := R.length) (t := (0, (cntG R, (R.length : Int)))) (by
    simp only [ctb0_step, Tr.val, Int.lt_irrefl, decide_false, cond_false, List.take_length]) R.length 0 (Nat.zero_add _) (fun j _ hj => by
    have b := cntG_bd h j (by omega)
    obtain ⟨d1, d2⟩ := ctb1_run h hj b.1 (by omega)
    rw [cntG_take hj]
    simp only [ctb0_step, Tr.val, lt_t hj, nn_t, d1, d2, Nat.beq, wi1 hj (show (R.length : Int) ≤ 9223372036854775806 by omega), Bool.and_self, cond_true])
  exact R1
theorem seq_run {A B : Rl} (hl : A.length = B.length) (hn : (A.length : Int) ≤ 9223372036854775807) : seq_cond (A, B, (A.length : Int)) (false, 0) = true ∧ ((A = B ∧ seq_g (A, B, (A.length : Int)) (false, 0) = (1, (false, (A.length : Int)))) ∨ (A ≠ B ∧ ∃ j : Nat, seq_g (A, B, (A.length : Int)) (false, 0) = (0, (false, (j : Int))))) := by
  obtain ⟨h1, h2⟩ := run_scan (step := seq_step (A, B, (A.length : Int))) (St := fun i => (false, (i : Int))) (Lv := fun i => (0, (false, (i : Int)))) (t := (1, (false, (A.length : Int)))) (n := A.length) (p := fun i => decide (el_ii A i = el_ii B i)) (fun i hi => by
    have hi2 : i < B.length := by omega
    simp only [seq_step, Tr.val, lt_t hi, lt_t hi2, nn_t, wi2 hi (show (A.length : Int) ≤ 9223372036854775807 by omega), eq2, Bool.and_self, cond_true]
    cases decide (el_ii A (i : Int) = el_ii B (i : Int)) <;> rfl) (by simp only [seq_step, Tr.val, Int.lt_irrefl, decide_false, cond_false])
  refine ⟨h1, ?_⟩
  rcases h2 with ⟨h, h3⟩ | ⟨j, hj, hp, _, h4⟩
  · refine .inl ⟨list_eq_of hl fun i a b => ?_, h3⟩
    have := of_decide_eq_true (h i a)
    rwa [el_r a, el_r b] at this
  · refine .inr ⟨fun e => ?_, j, h4⟩
    subst e
    simp at hp
def eqRl (A B : Rl) : Bool := decide (A = B)
def eqRg (A B : Rg) : Bool := decide (A = B)
set_option maxRecDepth 100000 in
theorem ctbc_tree (R : (Ty.list (.prod (.int .i64) (.list (.prod (.int .i64) (.int .i64))))).den) : evalF Try.prog rgB_S52 (opens []) rgB_L57 9 38 [.ag [.d false false (.prod (.int .i64) (.list (.prod (.int .i64) (.int .i64)))) R]] = .br (((szG R) && (bif !valGB R then true else ((ctb0_cond ((0 : Int), R) ((0 : Int), (0 : Int))) && (Nat.beq (Prod.fst (ctb0_g ((0 : Int), R) ((0 : Int), (0 : Int)))) (0 : Nat)))))) (.ret (.one (.v false (.int .i64 (bif !valGB R then (0 : Int) else Prod.fst (Prod.snd (ctb0_g ((0 : Int), R) ((0 : Int), (0 : Int))))))))) (.bad 116) := by kernel_rfl
theorem ctbc_val (R : (Ty.list (.prod (.int .i64) (.list (.prod (.int .i64) (.int .i64))))).den) (hc : (szG R) = true) : (.br (((szG R) && (bif !valGB R then true else ((ctb0_cond ((0 : Int), R) ((0 : Int), (0 : Int))) && (Nat.beq (Prod.fst (ctb0_g ((0 : Int), R) ((0 : Int), (0 : Int)))) (0 : Nat)))))) (.ret (.one (.v false (.int .i64 (bif !valGB R then (0 : Int) else Prod.fst (Prod.snd (ctb0_g ((0 : Int), R) ((0 : Int), (0 : Int))))))))) (.bad 116) : Tr AV).val = some (.one (.v false (.int .i64 (cntV R)))) := by
  obtain ⟨K, rfl⟩ : ∃ K : Rg, K = R := ⟨R, rfl⟩
  have hs : szG K = true := hc
  unfold cntV
  show cond _ _ _ = _
  cases hv : valGB K
  · simp only [hs, Bool.not_false, Bool.and_self, cond_true, cond_false, Tr.val]
  · obtain ⟨v1, v2⟩ := ctb0_run (valGB_iff.1 hv)
    simp only [hs, v1, v2, Nat.beq, Bool.not_true, Bool.and_self, cond_true, cond_false, Tr.val]
noncomputable def ctbc_g : List AV → Option (Tr AV)
  | [.ag [.d _ _ (.prod (.int .i64) (.list (.prod (.int .i64) (.int .i64)))) R]] => some (.br (szG R) (.ret (.one (.v false (.int .i64 (cntV R))))) (.bad 900))
  | _ => none
set_option maxHeartbeats 4000000 in
theorem ctbc_ok : FunOK Try.prog 38 ctbc_g := by
  refine fun_ok (by kernel_rfl) (rgB_S52_ok) (rgB_L57_ok) 9 (On := (opens [])) (fun args t h => ?_)
  unfold ctbc_g at h
  split at h
  · rename_i _ _ R
    simp only [Option.some.injEq] at h
    subst h
    refine ⟨[.ag [.d false false (.prod (.int .i64) (.list (.prod (.int .i64) (.int .i64)))) R]], rfl, fun fr w us h => h, fun r hr => ?_⟩
    obtain ⟨hc, hr⟩ := br_bad hr
    simp only [Tr.val, Option.some.injEq] at hr
    subst hr
    rw [ctbc_tree]
    exact ctbc_val R hc
  · cases h
noncomputable def rgB_S58 : Sums := addS 38 ctbc_g rgB_S52
theorem rgB_S58_ok : SumOK Try.prog rgB_S58 := addS_ok (ctbc_ok) (rgB_S52_ok)
set_option maxRecDepth 100000 in
theorem seqc_tree (A : (Ty.list (.prod (.int .i64) (.int .i64))).den) (B : (Ty.list (.prod (.int .i64) (.int .i64))).den) : evalF Try.prog rgB_S58 (opens []) rgB_L57 9 63 [.one (.d false false (.prod (.int .i64) (.int .i64)) A), .one (.d false false (.prod (.int .i64) (.int .i64)) B)] = .br ((bif (↑(List.length A) : Int) != (↑(List.length B) : Int) then true else ((seq_cond (A, B, (↑(List.length A) : Int)) (false, (0 : Int))) && (bif Nat.beq (Prod.fst (seq_g (A, B, (↑(List.length A) : Int)) (false, (0 : Int)))) (0 : Nat) then true else (Nat.beq (Prod.fst (seq_g (A, B, (↑(List.length A) : Int)) (false, (0 : Int)))) (1 : Nat)))))) (.ret (.one (.v false (.bool (bif (↑(List.length A) : Int) != (↑(List.length B) : Int) then false else bif Nat.beq (Prod.fst (seq_g (A, B, (↑(List.length A) : Int)) (false, (0 : Int)))) (0 : Nat) then Prod.fst (Prod.snd (seq_g (A, B, (↑(List.length A) : Int)) (false, (0 : Int)))) else true))))) (.bad 116) := by kernel_rfl
theorem seqc_val (A : (Ty.list (.prod (.int .i64) (.int .i64))).den) (B : (Ty.list (.prod (.int .i64) (.int .i64))).den) (hc : (decide ((A.length : Int) ≤ 9223372036854775807)) = true) : (.br ((bif (↑(List.length A) : Int) != (↑(List.length B) : Int) then true else ((seq_cond (A, B, (↑(List.length A) : Int)) (false, (0 : Int))) && (bif Nat.beq (Prod.fst (seq_g (A, B, (↑(List.length A) : Int)) (false, (0 : Int)))) (0 : Nat) then true else (Nat.beq (Prod.fst (seq_g (A, B, (↑(List.length A) : Int)) (false, (0 : Int)))) (1 : Nat)))))) (.ret (.one (.v false (.bool (bif (↑(List.length A) : Int) != (↑(List.length B) : Int) then false else bif Nat.beq (Prod.fst (seq_g (A, B, (↑(List.length A) : Int)) (false, (0 : Int)))) (0 : Nat) then Prod.fst (Prod.snd (seq_g (A, B, (↑(List.length A) : Int)) (false, (0 : Int)))) else true))))) (.bad 116) : Tr AV).val = some (.one (.v false (.bool (eqRl A B)))) := by
  obtain ⟨K, rfl⟩ : ∃ K : Rl, K = A := ⟨A, rfl⟩
  obtain ⟨M, rfl⟩ : ∃ K : Rl, K = B := ⟨B, rfl⟩
  have hn : decide ((K.length : Int) ≤ 9223372036854775807) = true := hc
  unfold eqRl
  show cond _ _ _ = _
  by_cases hl : K.length = M.length
  · obtain ⟨v1, v2⟩ := seq_run hl (of_decide_eq_true hn)
    have b : ((K.length : Int) != (M.length : Int)) = false := by rw [hl]; exact bne_self_eq_false _
    rcases v2 with ⟨h, g⟩ | ⟨h, j, g⟩
    · subst h
      simp only [b, v1, g, Nat.beq, decide_true, Bool.and_self, cond_true, cond_false, Tr.val]
    · simp only [b, v1, g, decide_eq_false h, Nat.beq, Bool.and_self, cond_true, cond_false, Tr.val]
  · have b : ((K.length : Int) != (M.length : Int)) = true := by simp; omega
    have e : ¬ K = M := fun e => hl (by rw [e])
    simp only [b, decide_eq_false e, cond_true, Tr.val]
noncomputable def seqc_g : List AV → Option (Tr AV)
  | [.one (.d _ _ (.prod (.int .i64) (.int .i64)) A), .one (.d _ _ (.prod (.int .i64) (.int .i64)) B)] => some (.br (decide ((A.length : Int) ≤ 9223372036854775807)) (.ret (.one (.v false (.bool (eqRl A B))))) (.bad 900))
  | _ => none
set_option maxHeartbeats 4000000 in
theorem seqc_ok : FunOK Try.prog 63 seqc_g := by
  refine fun_ok (by kernel_rfl) (rgB_S58_ok) (rgB_L57_ok) 9 (On := (opens [])) (fun args t h => ?_)
  unfold seqc_g at h
  split at h
  · rename_i _ _ A _ _ B
    simp only [Option.some.injEq] at h
    subst h
    refine ⟨[.one (.d false false (.prod (.int .i64) (.int .i64)) A), .one (.d false false (.prod (.int .i64) (.int .i64)) B)], rfl, fun fr w us h => h, fun r hr => ?_⟩
    obtain ⟨hc, hr⟩ := br_bad hr
    simp only [Tr.val, Option.some.injEq] at hr
    subst hr
    rw [seqc_tree]
    exact seqc_val A B hc
  · cases h
noncomputable def rgB_S59 : Sums := addS 63 seqc_g rgB_S58
theorem rgB_S59_ok : SumOK Try.prog rgB_S59 := addS_ok (seqc_ok) (rgB_S58_ok)
noncomputable def rgB_S60 : Sums := rgB_S59
theorem rgB_S60_ok : SumOK Try.prog rgB_S60 := rgB_S59_ok
abbrev eqf_U : Type := (Ty.list (.prod (.int .i64) (.list (.prod (.int .i64) (.int .i64))))).den × (Ty.list (.prod (.int .i64) (.list (.prod (.int .i64) (.int .i64))))).den × Int
noncomputable def eqf_St (u : eqf_U) (v : va_V) : Stt := ⟨[.one .junk, .one (.d false false (.prod (.int .i64) (.list (.prod (.int .i64) (.int .i64)))) u.1), .one (.fn 62 []), .one .junk, .one .junk, .one .junk, .one (.v false (.bool v.1)), .one .junk, .one .junk, .one .junk, .one .junk, .one .junk, .one .junk, .one .junk, .one .junk, .one (.d false false (.prod (.int .i64) (.list (.prod (.int .i64) (.int .i64)))) u.2.1), .one (.v false (.int .i64 u.2.2)), .one (.v false (.int .i64 v.2)), .one .junk, .one .junk, .one .junk, .one .junk, .one .junk, .one .junk, .one .junk, .one .junk, .one .junk, .one .junk, .one .junk, .one .junk, .one .junk, .one .junk], [], 1009⟩
noncomputable def eqf_step (u : eqf_U) (v : va_V) : Tr (va_V ⊕ (Nat × va_V)) :=
  match u, v with
  | (q0, q2, q3), (q1, q4) => .br (decide (q4 < q3)) (.br (decide ((0 : Int) ≤ q4) && decide (q4 < (↑(List.length q2) : Int))) (.br (decide ((0 : Int) ≤ q4) && decide (q4 < (↑(List.length q0) : Int))) (.br ((bif Prod.fst (el_ilii q2 q4) == Prod.fst (el_ilii q0 q4) then (decide ((↑(List.length (Prod.snd (el_ilii q2 q4))) : Int) ≤ (9223372036854775807 : Int))) else true)) (.br (!bif Prod.fst (el_ilii q2 q4) == Prod.fst (el_ilii q0 q4) then eqRl (Prod.snd (el_ilii q2 q4)) (Prod.snd (el_ilii q0 q4)) else false) (.ret (.inr (0, (false, q4)))) (.ret (.inl (q1, IntKind.wrap .i64 (q4 + (1 : Int)))))) (.bad 116)) (.bad 29)) (.bad 29)) (.ret (.inr (1, (q1, q4))))
set_option maxRecDepth 100000 in
set_option maxHeartbeats 4000000 in
theorem eqf_step_eq : ∀ (u : eqf_U) (v : va_V), (evalC Try.prog (evalB Try.prog rgB_S60 (opens []) rgB_L57 7).1 (evalB Try.prog rgB_S60 (opens []) rgB_L57 7).2 (opens []) (rgB_L57 61) 100000 (0 :: [0, 1, 0, 1, 1]) (loopOf (bodyOf Try.prog 61) [1, 1, 0, 1, 0]) (eqf_St u v) []).bind (finF [0, 3, 4, 5, 7, 8, 9, 10, 11, 12, 13, 14, 18, 19, 20, 21, 22, 23, 24, 25, 26, 27, 28, 29, 30, 31] [] [] [] 1009) = (eqf_step u v).bind (outA (eqf_St u) [.ret, .exit 0]) := by
  rintro ⟨q0, q2, q3⟩ ⟨q1, q4⟩
  kernel_rfl
noncomputable def eqf_rd (b : Bool) (o1 : Option AV) (o2 : Option AV) (o6 : Option AV) (o15 : Option AV) (o16 : Option AV) (o17 : Option AV) (own : Own) : Option (eqf_U × va_V) := zrT b <| zrO o1 fun za1 => zrA1 za1 fun zc2 => zrD (.prod (.int .i64) (.list (.prod (.int .i64) (.int .i64)))) zc2 fun q0 => zrO o2 fun za3 => zrA1 za3 fun zc4 => zrF 62 [] zc4 <| zrO o6 fun za5 => zrA1 za5 fun zc6 => zrB zc6 fun q1 => zrO o15 fun za7 => zrA1 za7 fun zc8 => zrD (.prod (.int .i64) (.list (.prod (.int .i64) (.int .i64)))) zc8 fun q2 => zrO o16 fun za9 => zrA1 za9 fun zc10 => zrI .i64 zc10 fun q3 => zrO o17 fun za11 => zrA1 za11 fun zc12 => zrI .i64 zc12 fun q4 => zrN own <| some ((q0, q2, q3), (q1, q4))
noncomputable def eqf_can (st : Stt) : Stt := canA [0, 3, 4, 5, 7, 8, 9, 10, 11, 12, 13, 14, 18, 19, 20, 21, 22, 23, 24, 25, 26, 27, 28, 29, 30, 31] [] [] [] 1009 st
noncomputable def eqf_cok (st : Stt) : Bool := canAok [0, 3, 4, 5, 7, 8, 9, 10, 11, 12, 13, 14, 18, 19, 20, 21, 22, 23, 24, 25, 26, 27, 28, 29, 30, 31] [] [] [] 1009 st
noncomputable def eqf_read (st : Stt) : Option (eqf_U × va_V) := eqf_rd (eqf_cok st && (staysA [] [] st.own && juAll [0, 3, 4, 5, 7, 8, 9, 10, 11, 12, 13, 14, 18, 19, 20, 21, 22, 23, 24, 25, 26, 27, 28, 29, 30, 31] (eqf_can st).tm 32)) (eqf_can st).tm[1]? (eqf_can st).tm[2]? (eqf_can st).tm[6]? (eqf_can st).tm[15]? (eqf_can st).tm[16]? (eqf_can st).tm[17]? (eqf_can st).own
set_option maxRecDepth 100000 in
set_option maxHeartbeats 4000000 in
theorem eqf_rd_ok {b : Bool} {tm : List AV} {own : Own} {u : eqf_U} {v : va_V} (hj : b = true → juAll [0, 3, 4, 5, 7, 8, 9, 10, 11, 12, 13, 14, 18, 19, 20, 21, 22, 23, 24, 25, 26, 27, 28, 29, 30, 31] tm 32 = true) (h : eqf_rd b tm[1]? tm[2]? tm[6]? tm[15]? tm[16]? tm[17]? own = some (u, v)) : b = true ∧ tm = (eqf_St u v).tm ∧ own = (eqf_St u v).own := by
  unfold eqf_rd at h
  obtain ⟨rfl, h0⟩ := zrT_some h
  obtain ⟨za1, e1, h1⟩ := zrO_some h0
  obtain ⟨zc2, rfl, h2⟩ := zrA1_some h1
  obtain ⟨q0, rfl, h3⟩ := zrD_some h2
  obtain ⟨za3, e2, h4⟩ := zrO_some h3
  obtain ⟨zc4, rfl, h5⟩ := zrA1_some h4
  obtain ⟨rfl, h6⟩ := zrF_some h5
  obtain ⟨za5, e6, h7⟩ := zrO_some h6
  obtain ⟨zc6, rfl, h8⟩ := zrA1_some h7
  obtain ⟨q1, rfl, h9⟩ := zrB_some h8
  obtain ⟨za7, e15, h10⟩ := zrO_some h9
  obtain ⟨zc8, rfl, h11⟩ := zrA1_some h10
  obtain ⟨q2, rfl, h12⟩ := zrD_some h11
  obtain ⟨za9, e16, h13⟩ := zrO_some h12
  obtain ⟨zc10, rfl, h14⟩ := zrA1_some h13
  obtain ⟨q3, rfl, h15⟩ := zrI_some h14
  obtain ⟨za11, e17, h16⟩ := zrO_some h15
  obtain ⟨zc12, rfl, h17⟩ := zrA1_some h16
  obtain ⟨q4, rfl, h18⟩ := zrI_some h17
  obtain ⟨rfl, h19⟩ := zrN_some h18
  have h := Option.some.inj h19
  have hu := congrArg Prod.fst h
  have hv := congrArg Prod.snd h
  dsimp only at hu hv
  subst hu
  subst hv
  exact ⟨rfl, (tm_fill (hj rfl) (Lv := [(1, .one (.d false false (.prod (.int .i64) (.list (.prod (.int .i64) (.int .i64)))) q0)), (2, .one (.fn 62 [])), (6, .one (.v false (.bool q1))), (15, .one (.d false false (.prod (.int .i64) (.list (.prod (.int .i64) (.int .i64)))) q2)), (16, .one (.v false (.int .i64 q3))), (17, .one (.v false (.int .i64 q4)))]) (by kernel_rfl) ⟨e1, e2, e6, e15, e16, e17, trivial⟩).trans (by kernel_rfl), rfl⟩
theorem eqf_read_ok (st : Stt) (u : eqf_U) (v : va_V) (h : eqf_read st = some (u, v)) : eqf_cok st = true ∧ staysA [] [] st.own = true ∧ eqf_can st = eqf_St u v := by
  obtain ⟨h1, h2, h3⟩ := eqf_rd_ok (fun hb => by rw [Bool.and_eq_true, Bool.and_eq_true] at hb; exact hb.2.2) h
  rw [Bool.and_eq_true, Bool.and_eq_true] at h1
  refine ⟨h1.1, h1.2.1, ?_⟩
  have e : eqf_can st = ⟨(eqf_can st).tm, (eqf_can st).own, 1009⟩ := by kernel_rfl
  rw [e, h2, h3]
  rfl
noncomputable def eqf_cond (u : eqf_U) (v : va_V) : Bool := runC (eqf_step u) v
noncomputable def eqf_g (u : eqf_U) (v : va_V) : Nat × va_V := runG (eqf_step u) v
theorem eqf_hg : ∀ (u : eqf_U) (v : va_V), eqf_cond u v = true → loopN (eqf_step u) ((fun u v => runF (eqf_step u) v) u v) v = some (eqf_g u v) := by
  exact fun u v h => run_hg h
noncomputable def eqf_m (st : Stt) : Option (Tr (Ex × Stt)) := sumM eqf_read eqf_cond eqf_St eqf_g [(0, .ret), (1, .exit 0)] st
noncomputable def rgB_L61 : FuncId → Loops := addL 61 [0, 1, 0, 1, 1] eqf_m rgB_L57
set_option maxRecDepth 100000 in
set_option maxHeartbeats 4000000 in
theorem rgB_L61_ok : LoopsOK Try.prog rgB_L61 :=
  loop_sumF (body := (bodyOf Try.prog 61)) (c := (loopOf (bodyOf Try.prog 61) [1, 1, 0, 1, 0])) (kinds := [.ret, .exit 0]) (allow := [(0, .ret), (1, .exit 0)]) (St := eqf_St) (step := eqf_step) (W := [0, 3, 4, 5, 7, 8, 9, 10, 11, 12, 13, 14, 18, 19, 20, 21, 22, 23, 24, 25, 26, 27, 28, 29, 30, 31]) (As := []) (ks := []) (dd := []) (nx := 1009) (n := 100000) (g := eqf_g) (cond := eqf_cond) (fuel := (fun u v => runF (eqf_step u) v)) (read := eqf_read) (by kernel_rfl) (rgB_S60_ok) (rgB_L57_ok) 7 ⟨Try.f61, by kernel_rfl, by kernel_rfl⟩ (by kernel_rfl) (by kernel_rfl) (by kernel_rfl) eqf_step_eq eqf_hg eqf_read_ok
end Go.Proofs.Ytdoodmapmhibhaa
