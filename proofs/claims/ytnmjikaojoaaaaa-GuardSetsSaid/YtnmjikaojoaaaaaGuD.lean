/-
  Contracts of both Steps of a guard, as one function.
-/
import Derived.Test.YtnmjikaojoaaaaaGuC
namespace Go.Proofs.Ytnmjikaojoaaaaa
open Go.RowKit
theorem guard_GStep (lo hi wa ri ba bs cn il qu fa r t d bs' cn' qu' fa' e : Int) (dr : Bool) (h : gst lo hi wa ri ba bs cn il qu fa dr r t d = (bs', cn', qu', fa', e)) (w : World) :
    Calls Try.prog 25 #[.agg #[.int .i64 lo, .int .i64 hi, .int .i64 wa, .int .i64 ri, .int .i64 ba, .int .i64 bs, .int .i64 cn, .int .i64 il, .int .i64 qu, .int .i64 fa, .bool dr], .int .i64 r, .int .i64 t, .int .i64 d] w fun e' w' => e' = .returned (.tuple #[.agg #[.int .i64 lo, .int .i64 hi, .int .i64 wa, .int .i64 ri, .int .i64 ba, .int .i64 (bs'), .int .i64 (cn'), .int .i64 il, .int .i64 (qu'), .int .i64 (fa'), .bool dr], .int .i64 e]) ∧ Ext w w' := by
  unfold gst at h
  by_cases hv : GVal lo hi wa ri ba bs cn il qu fa
  case neg => rw [if_neg (fun x => hv x.1)] at h; cases h; exact guard_Step_no lo hi wa ri ba bs cn il qu fa r t d dr hv w
  by_cases hf : fa = 0
  case neg => rw [if_neg (fun x => hf x.2)] at h; cases h; exact guard_Step_fault lo hi wa ri ba bs cn il qu fa r t d dr hv hf w
  subst hf
  rw [if_pos ⟨hv, rfl⟩] at h
  by_cases r0 : r < lo
  case pos => rw [if_pos r0] at h; cases h; exact guard_Step_cold lo hi wa ri ba bs cn il qu r t d dr hv r0 w
  rw [if_neg r0] at h
  by_cases r1 : hi < r
  case pos => rw [if_pos r1] at h; cases h; exact guard_Step_hot lo hi wa ri ba bs cn il qu r t d dr hv (by omega) r1 w
  rw [if_neg r1] at h
  by_cases hq : il ≤ qu + 1
  case pos => rw [if_pos hq] at h; cases h; exact guard_Step_quiet lo hi wa ri ba bs cn il qu r t d dr hv (by omega) (by omega) hq w
  rw [if_neg hq] at h
  cases dr
  case true => rw [if_pos rfl] at h; cases h; exact guard_Step_door lo hi wa ri ba bs cn il qu r t d hv (by omega) (by omega) (by omega) w
  rw [if_neg (by decide)] at h
  by_cases h0 : max 0 (min d 255) = 0
  case pos => rw [if_pos (.inl h0)] at h; cases h; rw [h0]; exact guard_Step_zero lo hi wa ri ba bs cn il qu r t d hv (by omega) (by omega) (by omega) _ _ rfl rfl h0 w
  by_cases h1 : max (-1073741824) (min t 1073741824) - ba ≤ r
  case pos => rw [if_pos (.inr h1)] at h; cases h; exact guard_Step_near lo hi wa ri ba bs cn il qu r t d hv (by omega) (by omega) (by omega) _ _ rfl rfl h0 h1 w
  rw [if_neg (fun x => x.elim h0 h1)] at h
  by_cases h4 : bs + ri ≤ r
  · rw [if_pos h4] at h
    by_cases h5 : wa ≤ 1
    · rw [if_pos h5] at h; cases h; exact guard_Step_rise_no lo hi wa ri ba bs cn il qu r t d hv (by omega) (by omega) (by omega) _ _ rfl rfl h0 (by omega) h4 h5 w
    · rw [if_neg h5] at h; cases h; exact guard_Step_rise lo hi wa ri ba bs cn il qu r t d hv (by omega) (by omega) (by omega) _ _ rfl rfl h0 (by omega) h4 (by omega) w
  · rw [if_neg h4] at h
    by_cases h5 : wa ≤ cn + 1
    · rw [if_pos h5] at h; cases h; exact guard_Step_stay_no lo hi wa ri ba bs cn il qu r t d hv (by omega) (by omega) (by omega) _ _ rfl rfl h0 (by omega) (by omega) h5 w
    · rw [if_neg h5] at h; cases h; exact guard_Step_stay lo hi wa ri ba bs cn il qu r t d hv (by omega) (by omega) (by omega) _ _ rfl rfl h0 (by omega) (by omega) (by omega) w
theorem additiveref50_GStep (lo hi wa ri ba bs cn il qu fa r t d bs' cn' qu' fa' e : Int) (dr : Bool) (h : gst lo hi wa ri ba bs cn il qu fa dr r t d = (bs', cn', qu', fa', e)) (w : World) :
    Calls Try.prog 26 #[.agg #[.int .i64 lo, .int .i64 hi, .int .i64 wa, .int .i64 ri, .int .i64 ba, .int .i64 bs, .int .i64 cn, .int .i64 il, .int .i64 qu, .int .i64 fa, .bool dr], .int .i64 r, .int .i64 t, .int .i64 d] w fun e' w' => e' = .returned (.tuple #[.agg #[.int .i64 lo, .int .i64 hi, .int .i64 wa, .int .i64 ri, .int .i64 ba, .int .i64 (bs'), .int .i64 (cn'), .int .i64 il, .int .i64 (qu'), .int .i64 (fa'), .bool dr], .int .i64 e]) ∧ Ext w w' := by
  unfold gst at h
  by_cases hv : GVal lo hi wa ri ba bs cn il qu fa
  case neg => rw [if_neg (fun x => hv x.1)] at h; cases h; exact additiveref50_Step_no lo hi wa ri ba bs cn il qu fa r t d dr hv w
  by_cases hf : fa = 0
  case neg => rw [if_neg (fun x => hf x.2)] at h; cases h; exact additiveref50_Step_fault lo hi wa ri ba bs cn il qu fa r t d dr hv hf w
  subst hf
  rw [if_pos ⟨hv, rfl⟩] at h
  by_cases r0 : r < lo
  case pos => rw [if_pos r0] at h; cases h; exact additiveref50_Step_cold lo hi wa ri ba bs cn il qu r t d dr hv r0 w
  rw [if_neg r0] at h
  by_cases r1 : hi < r
  case pos => rw [if_pos r1] at h; cases h; exact additiveref50_Step_hot lo hi wa ri ba bs cn il qu r t d dr hv (by omega) r1 w
  rw [if_neg r1] at h
  by_cases hq : il ≤ qu + 1
  case pos => rw [if_pos hq] at h; cases h; exact additiveref50_Step_quiet lo hi wa ri ba bs cn il qu r t d dr hv (by omega) (by omega) _ _ rfl rfl hq w
  rw [if_neg hq] at h
  cases dr
  case true => rw [if_pos rfl] at h; cases h; exact additiveref50_Step_door lo hi wa ri ba bs cn il qu r t d hv (by omega) (by omega) _ _ rfl rfl (by omega) w
  rw [if_neg (by decide)] at h
  by_cases h0 : max 0 (min d 255) = 0
  case pos => rw [if_pos (.inl h0)] at h; cases h; rw [h0]; exact additiveref50_Step_zero lo hi wa ri ba bs cn il qu r t d hv (by omega) (by omega) (by omega) _ _ rfl rfl h0 w
  by_cases h1 : max (-1073741824) (min t 1073741824) - ba ≤ r
  case pos => rw [if_pos (.inr h1)] at h; cases h; exact additiveref50_Step_near lo hi wa ri ba bs cn il qu r t d hv (by omega) (by omega) (by omega) _ _ rfl rfl h0 h1 w
  rw [if_neg (fun x => x.elim h0 h1)] at h
  by_cases h4 : bs + ri ≤ r
  · rw [if_pos h4] at h
    by_cases h5 : wa ≤ 1
    · rw [if_pos h5] at h; cases h; exact additiveref50_Step_rise_no lo hi wa ri ba bs cn il qu r t d hv (by omega) (by omega) (by omega) _ _ rfl rfl h0 (by omega) h4 h5 w
    · rw [if_neg h5] at h; cases h; exact additiveref50_Step_rise lo hi wa ri ba bs cn il qu r t d hv (by omega) (by omega) (by omega) _ _ rfl rfl h0 (by omega) h4 (by omega) w
  · rw [if_neg h4] at h
    by_cases h5 : wa ≤ cn + 1
    · rw [if_pos h5] at h; cases h; exact additiveref50_Step_stay_no lo hi wa ri ba bs cn il qu r t d hv (by omega) (by omega) (by omega) _ _ rfl rfl h0 (by omega) (by omega) h5 w
    · rw [if_neg h5] at h; cases h; exact additiveref50_Step_stay lo hi wa ri ba bs cn il qu r t d hv (by omega) (by omega) (by omega) _ _ rfl rfl h0 (by omega) (by omega) (by omega) w
end Go.Proofs.Ytnmjikaojoaaaaa

