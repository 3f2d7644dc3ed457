/-
  Contracts of package thermal and of the document's own answers: which heaters are valid, steps, the greatest temperature.
-/
import Derived.Test.YthgmacoljkljfaaFl
import Derived.Test.YthgmacoljkljfaaExt
import Derived.Lib.MinMax
import Derived.IntWalk
namespace Go.Proofs.Ythgmacoljkljfaa
open Go.RowKit
/-- The heater's numbers (power, loss, mass, ambient) are in range. -/
def HVal (p l m a : Int) : Prop := 0 ≤ p ∧ p ≤ 1048576 ∧ 1 ≤ l ∧ l ≤ 65536 ∧ l ≤ m ∧ m ≤ 1048576 ∧ -400000 ≤ a ∧ a ≤ 400000
instance (p l m a : Int) : Decidable (HVal p l m a) := inferInstanceAs (Decidable (_ ∧ _))
/-- What Step answers for a valid heater. -/
def hstep (p l m a t d : Int) : Int := max (-1073741824) (min t 1073741824) + (max 0 (min d 255) * p - l * (max (-1073741824) (min t 1073741824) - a)) / m
def HStepIs (p l m a t d r : Int) : Prop := (HVal p l m a ∧ r = hstep p l m a t d) ∨ (¬ HVal p l m a ∧ r = 0)
def TopIs (p l m a r : Int) : Prop := (HVal p l m a ∧ r = a - (-255 * p) / l) ∨ (¬ HVal p l m a ∧ r = 0)
theorem hstepIs_ex (p l m a t d : Int) : ∃ r, HStepIs p l m a t d r := by
  by_cases h : HVal p l m a
  · exact ⟨_, .inl ⟨h, rfl⟩⟩
  · exact ⟨_, .inr ⟨h, rfl⟩⟩
theorem topIs_ex (p l m a : Int) : ∃ r, TopIs p l m a r := by
  by_cases h : HVal p l m a
  · exact ⟨_, .inl ⟨h, rfl⟩⟩
  · exact ⟨_, .inr ⟨h, rfl⟩⟩
set_option maxHeartbeats 4000000 in
theorem thermal_HValid (p l m a : Int) (b : Bool) (hb : b = decide (HVal p l m a)) (w : World) :
    Calls Try.prog 28 #[.agg #[.int .i64 p, .int .i64 l, .int .i64 m, .int .i64 a]] w fun e w' => e = .returned (.bool b) ∧ Ext w w' := by
  have HB := Lib.hid hb; clear hb
  go_enter Try.func28, Try.ntmps28
  go_wp2_with fail
  all_goals
    go_ret
    refine ⟨ret_b (Eq.symm ?_), (Ext.refl _).alloc _⟩
    rw [HB.out]
    first
    | exact decide_eq_false (by unfold HVal; omega)
    | (rw [decide_eq_decide]; unfold HVal; omega)
    | (rw [Bool.eq_iff_iff]; simp [HVal]; omega)
    | trace_state
set_option maxHeartbeats 4000000 in
theorem additiveref48_HValid (p l m a : Int) (b : Bool) (hb : b = decide (HVal p l m a)) (w : World) :
    Calls Try.prog 29 #[.agg #[.int .i64 p, .int .i64 l, .int .i64 m, .int .i64 a]] w fun e w' => e = .returned (.bool b) ∧ Ext w w' := by
  have HB := Lib.hid hb; clear hb
  go_enter Try.func29, Try.ntmps29
  go_wp2_with fail
  all_goals
    go_ret
    refine ⟨ret_b (Eq.symm ?_), (Ext.refl _).alloc _⟩
    rw [HB.out]
    first
    | exact decide_eq_false (by unfold HVal; omega)
    | (rw [decide_eq_decide]; unfold HVal; omega)
    | (rw [Bool.eq_iff_iff]; simp [HVal]; omega)
    | trace_state
end Go.Proofs.Ythgmacoljkljfaa

