/-
  The law KinInverse of the project's package additive/additivelaw41 is true for every input, and leaves its arguments as they were: proved of the Go text at the commit in COMMIT, its tables tied to the program's text.
-/
import Derived.Test.YthgmacoljkljfaaKiF
import Derived.Test.YthgmacoljkljfaaRows
import Derived.WalkKit
import Derived.ProofKit
import Derived.OpenShut
import Derived.Stop.Joined
import Derived.ChangeMaps5
import Derived.Lib.SmallJoins
import Derived.Test.YthgmacoljkljfaaFlat
namespace Go.Proofs.Ythgmacoljkljfaa.kinInverse
open Go.Joins Go.ChangeShapes Go.WideShapes Go.ChangeAt Go.RowKit Go.ChangeMaps
theorem own : ownKnob Try.prog.godebug = none := by kernel_rfl
set_option maxRecDepth 100000 in
theorem lifted (os : Os) (started : os.Started) (H : Type) (enc : TypeId × Value → H) :
    ReturnsInHanded {} Try.checked os 6 .any (Rows.kinInverseSpec.pre6 enc Try.prog Try.f6 Rows.kinInverseRow.domain false) (Rows.kinInverseSpec.post enc Try.prog Try.f6 false true false false) := by
  refine returnsInHanded_of_change (C := Try.checked) own started (by kernel_rfl) Try.func6
    (ChangeSpec.witness6 (enc := enc) (C := Try.checked) false ⟨#[], #[.agg #[.int .i64 0, .int .i64 0, .int .i64 0, .int .i64 0, .int .i64 0, .int .i64 0, .int .i64 0, .int .i64 0, .int .i64 0, .int .i64 0, .int .i64 0, .int .i64 0, .int .i64 0, .int .i64 0, .int .i64 0, .int .i64 0, .int .i64 0, .int .i64 0, .int .i64 0, .int .i64 0, .int .i64 0, .int .i64 0, .int .i64 0, .int .i64 0, .int .i64 0, .int .i64 0, .int .i64 0, .int .i64 0, .bool false, .int .i64 0, .int .i64 0, .int .i64 0, .int .i64 0, .int .i64 0, .int .i64 0, .int .i64 0, .int .i64 0, .int .i64 0]], []⟩ 8 (by kernel_rfl) (by kernel_rfl) (by kernel_rfl) (by kernel_rfl)) ?_
  intro W base args ds gs before hval0 hW hcnd _
  have hval : ∀ (j : Nat) t v, Try.f6.params[j]? = some t → args[j]? = some v → Value.okWide Try.prog W .any base t v := hval0
  have hW' := hW
  obtain ⟨p, q, hA0, hV, rfl, hfz, hnd⟩ := hW
  have hA : DataW.TrodAll enc Try.prog W 0 (fun _ => true) true Try.f6.params.toList args.toList ds p := hA0
  rw [Try.params6] at hA hval
  obtain ⟨v0, vs0, d0, ds0, p0, q0, hargs, rfl, rfl, h0, r0⟩ := trodAll_cons hA
  obtain ⟨rfl, rfl, rfl⟩ := trodAll_nil r0
  obtain rfl : args = #[v0] := by cases args; simp_all
  obtain ⟨rfl, rfl⟩ := trodVars_none hV
  obtain ⟨l0, rfl, rfl, fit0, keep0⟩ := open_flat 6 [.int .i64, .int .i64, .int .i64, .int .i64, .int .i64, .int .i64, .int .i64, .int .i64, .int .i64, .int .i64, .int .i64, .int .i64, .int .i64, .int .i64, .int .i64, .int .i64, .int .i64, .int .i64, .int .i64, .int .i64, .int .i64, .int .i64, .int .i64, .int .i64, .int .i64, .int .i64, .int .i64, .int .i64, .bool, .int .i64, .int .i64, .int .i64, .int .i64, .int .i64, .int .i64, .int .i64, .int .i64, .int .i64] (by kernel_rfl) (by kernel_rfl) (hval 0 38 v0 rfl rfl) h0
  obtain ⟨a0_0, _, rfl, w0_0, fit0⟩ := fit0
  obtain ⟨a0_1, _, rfl, w0_1, fit0⟩ := fit0
  obtain ⟨a0_2, _, rfl, w0_2, fit0⟩ := fit0
  obtain ⟨a0_3, _, rfl, w0_3, fit0⟩ := fit0
  obtain ⟨a0_4, _, rfl, w0_4, fit0⟩ := fit0
  obtain ⟨a0_5, _, rfl, w0_5, fit0⟩ := fit0
  obtain ⟨a0_6, _, rfl, w0_6, fit0⟩ := fit0
  obtain ⟨a0_7, _, rfl, w0_7, fit0⟩ := fit0
  obtain ⟨a0_8, _, rfl, w0_8, fit0⟩ := fit0
  obtain ⟨a0_9, _, rfl, w0_9, fit0⟩ := fit0
  obtain ⟨a0_10, _, rfl, w0_10, fit0⟩ := fit0
  obtain ⟨a0_11, _, rfl, w0_11, fit0⟩ := fit0
  obtain ⟨a0_12, _, rfl, w0_12, fit0⟩ := fit0
  obtain ⟨a0_13, _, rfl, w0_13, fit0⟩ := fit0
  obtain ⟨a0_14, _, rfl, w0_14, fit0⟩ := fit0
  obtain ⟨a0_15, _, rfl, w0_15, fit0⟩ := fit0
  obtain ⟨a0_16, _, rfl, w0_16, fit0⟩ := fit0
  obtain ⟨a0_17, _, rfl, w0_17, fit0⟩ := fit0
  obtain ⟨a0_18, _, rfl, w0_18, fit0⟩ := fit0
  obtain ⟨a0_19, _, rfl, w0_19, fit0⟩ := fit0
  obtain ⟨a0_20, _, rfl, w0_20, fit0⟩ := fit0
  obtain ⟨a0_21, _, rfl, w0_21, fit0⟩ := fit0
  obtain ⟨a0_22, _, rfl, w0_22, fit0⟩ := fit0
  obtain ⟨a0_23, _, rfl, w0_23, fit0⟩ := fit0
  obtain ⟨a0_24, _, rfl, w0_24, fit0⟩ := fit0
  obtain ⟨a0_25, _, rfl, w0_25, fit0⟩ := fit0
  obtain ⟨a0_26, _, rfl, w0_26, fit0⟩ := fit0
  obtain ⟨a0_27, _, rfl, w0_27, fit0⟩ := fit0
  obtain ⟨a0_28, _, rfl, fit0⟩ := fit0
  obtain ⟨a0_29, _, rfl, w0_29, fit0⟩ := fit0
  obtain ⟨a0_30, _, rfl, w0_30, fit0⟩ := fit0
  obtain ⟨a0_31, _, rfl, w0_31, fit0⟩ := fit0
  obtain ⟨a0_32, _, rfl, w0_32, fit0⟩ := fit0
  obtain ⟨a0_33, _, rfl, w0_33, fit0⟩ := fit0
  obtain ⟨a0_34, _, rfl, w0_34, fit0⟩ := fit0
  obtain ⟨a0_35, _, rfl, w0_35, fit0⟩ := fit0
  obtain ⟨a0_36, _, rfl, w0_36, fit0⟩ := fit0
  obtain ⟨a0_37, _, rfl, w0_37, fit0⟩ := fit0
  cases fit0
  clear hA0 hval0
  simp only [List.append_nil] at hW'
  refine (law_KinInverse a0_0 a0_1 a0_2 a0_3 a0_4 a0_5 a0_6 a0_7 a0_8 a0_9 a0_10 a0_11 a0_12 a0_13 a0_14 a0_15 a0_16 a0_17 a0_18 a0_19 a0_20 a0_21 a0_22 a0_23 a0_24 a0_25 a0_26 a0_27 a0_28 a0_29 a0_30 a0_31 a0_32 a0_33 a0_34 a0_35 a0_36 a0_37 W).mono fun e W' ⟨he, hb⟩ => ?_
  subst he
  exact ⟨_, rfl, post_of_below (pa := []) (pv := []) hW' (fun _ _ _ => trodAll_cons_mk (shut_bool Try.underlying4 _) trodAll_mk0) (fun sp _ => (trodAll_cons_mk (keep0 _ _ _ _) trodAll_mk0)) (fun _ _ => rfl) rfl hb (ok_one (by kernel_rfl) rfl (okWide_bool_mk Try.underlying4 _))⟩

theorem over : Rows.KinInverseSaid :=
  OpenClaim.holds_of_wide 6 Try.f6 rfl rfl rfl rfl rfl rfl rfl ⟨rfl, rfl, rfl, rfl, rfl⟩ rfl rfl rfl rfl rfl (by kernel_rfl) Try.func6 (by kernel_rfl)
    (of_decide_eq_true (by kernel_rfl)) (by unfold Func.isWrapper; first | (rw [if_pos (by decide +kernel)]; kernel_rfl) | (rw [if_neg (by decide +kernel)]; exact ⟨rfl, rfl⟩))
    (fun os started H enc _ => lifted os started H enc)
theorem proved : Rows.KinInverseSaid := over
#print axioms proved
end Go.Proofs.Ythgmacoljkljfaa.kinInverse
