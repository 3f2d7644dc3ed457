/-
  Contracts out of trees. No program is named here.
-/
import Derived.Test.YtacgchandefjgaaFvW
namespace Go.Proofs.Ytacgchandefjgaa
open Go
/-- A function without parameters that answers 'true'. -/
def gTrue : List AV → Option (Tr AV)
  | [] => some (.ret (.one (.v true (.bool true))))
  | _ => none
theorem gTrue_ok {P : Program} {S : Sums} {On : FuncId → Bool} {L : FuncId → Loops} (hm : P.follows .mixedOrders = true) (hS : SumOK P S) (hL : LoopsOK P L) {d : Nat} {f : FuncId} (h : evalF P S On L d f [] = .ret (.one (.v true (.bool true)))) : FunOK P f gTrue := by
  intro args t ht r hr hk w fr us hbas hfr hus
  unfold gTrue at ht
  split at ht
  · simp only [Option.some.injEq] at ht
    subst ht
    simp only [Tr.val, Option.some.injEq] at hr
    subst hr
    exact fun_of_tree hm hS hL (by rw [h]; rfl) rfl w fr us hbas hfr hus
  · cases ht
/-- A contract, where the evaluator answers for other arguments of which these are an instance. -/
theorem fun_ok {P : Program} {S : Sums} {On : FuncId → Bool} {L : FuncId → Loops} (hm : P.follows .mixedOrders = true) (hS : SumOK P S) (hL : LoopsOK P L) (d : Nat) {f : FuncId} {g : List AV → Option (Tr AV)}
    (h : ∀ args t, g args = some t → ∃ args', args'.flatMap AV.keys = [] ∧ (∀ fr w us, asIs [] (fun _ => none) fr w args us → asIs [] (fun _ => none) fr w args' us) ∧ ∀ r, t.val = some r → (evalF P S On L d f args').val = some r) : FunOK P f g := by
  intro args t ht r hr hk w fr us hbas hfr hus
  obtain ⟨args', h1, h2, h3⟩ := h args t ht
  exact fun_of_tree hm hS hL (h3 r hr) h1 w fr us hbas hfr (h2 fr w us hus)
/-- A contract out of a walk's. -/
theorem fun_of_calls {P : Program} {f : FuncId} {g : List AV → Option (Tr AV)} (h : ∀ args t, g args = some t → ∀ r, t.val = some r → ∀ (fr : Nat → Prop) w us, asIs [] (fun _ => none) fr w args us →
    ∃ v, (Calls P f us.toArray w fun e w' => e = .returned v ∧ Ext w w') ∧ (∀ fr' w', r.is [] (fun _ => none) fr' w' v) ∧ r.keys = []) : FunOK P f g := by
  intro args t ht r hr hk w fr us hbas hfr hus
  obtain ⟨v, h1, h2, h3⟩ := h args t ht r hr fr w us hus
  exact h1.mono fun e w' ⟨he, hx⟩ => ⟨v, fr, he, hx, fun _ hb => hb, fun _ hb => .inl hb, fun b hb => Nat.lt_of_lt_of_le (hfr b hb) hx.size, h2 fr w', h3⟩
/-- The same, where the base is asked for. -/
theorem fun_of_callsB {P : Program} {f : FuncId} {g : List AV → Option (Tr AV)} (h : ∀ args t, g args = some t → ∀ r, t.val = some r → ∀ (fr : Nat → Prop) w us, Bas w → asIs [] (fun _ => none) fr w args us →
    ∃ v, (Calls P f us.toArray w fun e w' => e = .returned v ∧ Ext w w') ∧ (∀ fr' w', r.is [] (fun _ => none) fr' w' v) ∧ r.keys = []) : FunOK P f g := by
  intro args t ht r hr hk w fr us hbas hfr hus
  obtain ⟨v, h1, h2, h3⟩ := h args t ht r hr fr w us hbas hus
  exact h1.mono fun e w' ⟨he, hx⟩ => ⟨v, fr, he, hx, fun _ hb => hb, fun _ hb => .inl hb, fun b hb => Nat.lt_of_lt_of_le (hfr b hb) hx.size, h2 fr w', h3⟩
theorem br_bad {α : Type} {b : Bool} {t : Tr α} {n : Nat} {r : α} (h : (Tr.br b t (.bad n)).val = some r) : b = true ∧ t.val = some r := by
  cases b
  · cases h
  · exact ⟨rfl, h⟩
theorem tup2_is {own : Own} {ρ : Nat → Option Nat} {fr : Nat → Prop} {w : World} {k1 k2 : Bool} {x y : Value} : (AV.tup [(false, [.v k1 x]), (false, [.v k2 y])]).is own ρ fr w (.tuple #[x, y]) :=
  ⟨[x, y], rfl, _, _, rfl, ⟨[x], ⟨_, _, rfl, rfl, rfl⟩, rfl⟩, _, _, rfl, ⟨[y], ⟨_, _, rfl, rfl, rfl⟩, rfl⟩, rfl⟩
theorem tup3_is {own : Own} {ρ : Nat → Option Nat} {fr : Nat → Prop} {w : World} {k1 k2 k3 : Bool} {x y z : Value} : (AV.tup [(false, [.v k1 x]), (false, [.v k2 y]), (false, [.v k3 z])]).is own ρ fr w (.tuple #[x, y, z]) :=
  ⟨[x, y, z], rfl, _, _, rfl, ⟨[x], ⟨_, _, rfl, rfl, rfl⟩, rfl⟩, _, _, rfl, ⟨[y], ⟨_, _, rfl, rfl, rfl⟩, rfl⟩, _, _, rfl, ⟨[z], ⟨_, _, rfl, rfl, rfl⟩, rfl⟩, rfl⟩
theorem bif_tf (b : Bool) : (bif b then true else false) = b := by cases b <;> rfl
theorem i64_range {n : Int} (h : (Lit.int .i64 n).wf = true) : -9223372036854775808 ≤ n ∧ n ≤ 9223372036854775807 := by
  have h1 : IntKind.i64.min = -9223372036854775808 := by decide
  have h2 : IntKind.i64.max = 9223372036854775807 := by decide
  replace h : (decide (IntKind.i64.min ≤ n) && decide (n ≤ IntKind.i64.max)) = true := h
  rw [h1, h2, Bool.and_eq_true, decide_eq_true_iff, decide_eq_true_iff] at h
  exact h
theorem u8_range {n : Int} (h : (Lit.int .u8 n).wf = true) : 0 ≤ n ∧ n ≤ 255 := by
  have h1 : IntKind.u8.min = 0 := by decide
  have h2 : IntKind.u8.max = 255 := by decide
  replace h : (decide (IntKind.u8.min ≤ n) && decide (n ≤ IntKind.u8.max)) = true := h
  rw [h1, h2, Bool.and_eq_true, decide_eq_true_iff, decide_eq_true_iff] at h
  exact h
theorem u16_range {n : Int} (h : (Lit.int .u16 n).wf = true) : 0 ≤ n ∧ n ≤ 65535 := by
  have h1 : IntKind.u16.min = 0 := by decide
  have h2 : IntKind.u16.max = 65535 := by decide
  replace h : (decide (IntKind.u16.min ≤ n) && decide (n ≤ IntKind.u16.max)) = true := h
  rw [h1, h2, Bool.and_eq_true, decide_eq_true_iff, decide_eq_true_iff] at h
  exact h
theorem u32_range {n : Int} (h : (Lit.int .u32 n).wf = true) : 0 ≤ n ∧ n ≤ 4294967295 := by
  have h1 : IntKind.u32.min = 0 := by decide
  have h2 : IntKind.u32.max = 4294967295 := by decide
  replace h : (decide (IntKind.u32.min ≤ n) && decide (n ≤ IntKind.u32.max)) = true := h
  rw [h1, h2, Bool.and_eq_true, decide_eq_true_iff, decide_eq_true_iff] at h
  exact h
theorem u64_range {n : Int} (h : (Lit.int .u64 n).wf = true) : 0 ≤ n ∧ n ≤ 18446744073709551615 := by
  have h1 : IntKind.u64.min = 0 := by decide
  have h2 : IntKind.u64.max = 18446744073709551615 := by decide
  replace h : (decide (IntKind.u64.min ≤ n) && decide (n ≤ IntKind.u64.max)) = true := h
  rw [h1, h2, Bool.and_eq_true, decide_eq_true_iff, decide_eq_true_iff] at h
  exact h
end Go.Proofs.Ytacgchandefjgaa
