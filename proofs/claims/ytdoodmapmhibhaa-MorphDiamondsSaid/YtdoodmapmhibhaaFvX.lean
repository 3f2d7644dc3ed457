/-
  Contracts out of trees. No program is named here.
-/
import Derived.Test.YtdoodmapmhibhaaFvW
namespace Go.Proofs.Ytdoodmapmhibhaa
open Go
/-- A function without parameters that answers 'true'. -/
def gTrue : List AV → Option (Tr AV)
  | [] => some (.ret (.one (.v true (.bool true))))
  | _ => none
theorem gTrue_ok {P : Program} {S : Sums} {On : FuncId → Bool} {L : FuncId → Loops} (hm : P.follows .mixedOrders = true) (hS : SumOK P S) (hL : LoopsOK P L) {d : Nat} {f : FuncId} (h : evalF P S On L d f [] = .ret (.one (.v true (.bool true)))) : FunOK P f gTrue := by
  intro args t ht r hr hk w fr us hbas hfr hus
  unfold gTrue at ht
  split at ht
  · simp only [Option.some.injEq] at ht
    subst ht
    simp only [Tr.val, Option.some.injEq] at hr
    subst hr
    exact fun_of_tree hm hS hL (by rw [h]; rfl) rfl w fr us hbas hfr hus
  · cases ht
/-- A contract, where the evaluator answers for other arguments of which these are an instance. -/
theorem fun_ok {P : Program} {S : Sums} {On : FuncId → Bool} {L : FuncId → Loops} (hm : P.follows .mixedOrders = true) (hS : SumOK P S) (hL : LoopsOK P L) (d : Nat) {f : FuncId} {g : List AV → Option (Tr AV)}
    (h : ∀ args t, g args = some t → ∃ args', args'.flatMap AV.keys = [] ∧ (∀ fr w us, asIs [] (fun _ => none) fr w args us → asIs [] (fun _ => none) fr w args' us) ∧ ∀ r, t.val = some r → (evalF P S On L d f args').val = some r) : FunOK P f g := by
  intro args t ht r hr hk w fr us hbas hfr hus
  obtain ⟨args', h1, h2, h3⟩ := h args t ht
  exact fun_of_tree hm hS hL (h3 r hr) h1 w fr us hbas hfr (h2 fr w us hus)
theorem br_bad {α : Type} {b : Bool} {t : Tr α} {n : Nat} {r : α} (h : (Tr.br b t (.bad n)).val = some r) : b = true ∧ t.val = some r := by
  cases b
  · cases h
  · exact ⟨rfl, h⟩
end Go.Proofs.Ytdoodmapmhibhaa
