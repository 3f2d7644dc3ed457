/-
  Contracts out of trees. No program is named here.
-/
import Derived.Test.YtdoodmapmhibhaaFvW
namespace Go.Proofs.Ytdoodmapmhibhaa
open Go
/-- A function without parameters that answers 'true'. -/
def gTrue : List AV → Option (Tr AV)
  | [] => some (.ret (.one (.v true (.bool true))))
  | _ => none
theorem gTrue_ok {P : Program} {S : Sums} {On : FuncId → Bool} {L : FuncId → Loops} (hm : P.follows .mixedOrders = true) (hS : SumOK P S) (hL : LoopsOK P L) {d : Nat} {f : FuncId} (h : evalF P S On L d f [] = .ret (.one (.v true (.bool true)))) : FunOK P f gTrue := by
  intro args t ht r hr hk w fr us hbas hfr hus
  unfold gTrue at ht
  split at ht
  · simp only [Option.some.injEq] at ht
    subst ht
    simp only [Tr.val, Option.some.injEq] at hr
    subst hr
    exact fun_of_tree hm hS hL (by rw [h]; rfl) rfl w fr us hbas hfr hus
  · cases ht
/-- A contract, where the evaluator answers for other arguments of which these are an instance. -/
theorem fun_ok {P : Program} {S : Sums} {On : FuncId → Bool} {L : FuncId → Loops} (hm : P.follows .mixedOrders = true) (hS : SumOK P S) (hL : LoopsOK P L) (d : Nat) {f : FuncId} {g : List AV → Option (Tr AV)}
    (h : ∀ args t, g args = some t → ∃ args', args'.flatMap AV.keys = [] ∧ (∀ fr w us, asIs [] (fun _ => none) fr w args us → asIs [] (fun _ => none) fr w args' us) ∧ ∀ r, t.val = some r → (evalF P S On L d f args').val = some r) : FunOK P f g := by
  intro args t ht r hr hk w fr us hbas hfr hus
  obtain ⟨args', h1, h2, h3⟩ := h args t ht
  exact fun_of_tree hm hS hL (h3 r hr) h1 w fr us hbas hfr (h2 fr w us hus)
theorem br_bad {α : Type} {b : Bool} {t : Tr α} {n : Nat} {r : α} (h : (Tr.br b t (.bad n)).val = some r) : b = true ∧ t.val = some r := by
  cases b
  · cases h
  · exact ⟨rfl, h⟩
theorem i64_range {n : Int} (h : (Lit.int .i64 n).wf = true) : -9223372036854775808 ≤ n ∧ n ≤ 9223372036854775807 := by
  have h1 : IntKind.i64.min = -9223372036854775808 := by decide
  have h2 : IntKind.i64.max = 9223372036854775807 := by decide
  replace h : (decide (IntKind.i64.min ≤ n) && decide (n ≤ IntKind.i64.max)) = true := h
  rw [h1, h2, Bool.and_eq_true, decide_eq_true_iff, decide_eq_true_iff] at h
  exact h
end Go.Proofs.Ytdoodmapmhibhaa
