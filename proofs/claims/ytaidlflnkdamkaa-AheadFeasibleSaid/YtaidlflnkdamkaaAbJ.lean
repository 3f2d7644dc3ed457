/-
  Layer 44: the law Caps.
-/
import Derived.Test.YtaidlflnkdamkaaProg
import Derived.Test.YtaidlflnkdamkaaFvX
import Derived.Test.YtaidlflnkdamkaaFvZ
import Derived.Test.YtaidlflnkdamkaaAut
import Derived.Test.YtaidlflnkdamkaaAbA
import Derived.Test.YtaidlflnkdamkaaAbB
import Derived.Test.YtaidlflnkdamkaaAbM
import Derived.Test.YtaidlflnkdamkaaAbN
import Derived.Test.YtaidlflnkdamkaaAbC
import Derived.Test.YtaidlflnkdamkaaAbD
import Derived.Test.YtaidlflnkdamkaaAbE
import Derived.Test.YtaidlflnkdamkaaAbP
import Derived.Test.YtaidlflnkdamkaaAbF
import Derived.Test.YtaidlflnkdamkaaAbG
import Derived.Test.YtaidlflnkdamkaaAbH
import Derived.Test.YtaidlflnkdamkaaAbI
namespace Go.Proofs.Ytaidlflnkdamkaa
open Go
section
variable {L : BkL} {C C' : List Int} {e : Int}
theorem v_neg {x b' : Int} (h : 0 ≤ b') (g : x < -4611686018427387904) : max x (-4611686018427387904) - b' < 0 := by omega
theorem v_le {x b' : Int} (h : 0 ≤ b') (g : -4611686018427387904 ≤ x) : max x (-4611686018427387904) - b' ≤ x := by omega
theorem planC_R1 (h : C.length ≠ L.length ∨ (∃ i, i < L.length ∧ sndB (bL L i) = false) ∨ (L.length ≠ 0 ∧ (e < 0 ∨ e > crB (bL L 0)))) : planC L C e = 1 := by
  unfold planC
  by_cases hl : C.length = L.length
  · have h1 : ((C.length : Int) != (L.length : Int)) = false := by rw [hl]; simp
    rw [h1]
    simp only [cond_false]
    cases hv : L.any (fun b => !sndB b)
    · simp only [cond_false]
      have hvv : ∀ i, i < L.length → sndB (bL L i) = true := fun i hi => by
        have h1 := any_false hv hi ((0, 0, 0, 0), 0, 0, 0, 0)
        show sndB (L.getD i ((0, 0, 0, 0), 0, 0, 0, 0)) = true
        simpa using h1
      rcases h with h | ⟨i, hi, h⟩ | ⟨hn, h⟩
      · exact absurd hl h
      · rw [hvv i hi] at h; cases h
      · have h2 : ((L.length : Int) == 0) = false := by simpa using hn
        have h3 : (decide (e < 0) || decide (e > crB (bL L 0))) = true := by simpa using h
        rw [h2, h3]; rfl
    · rfl
  · have h1 : ((C.length : Int) != (L.length : Int)) = true := by simp; omega
    rw [h1]; rfl
theorem planC_ok (hk : ChOk L C e) : planC L C e = bif decide (sq44 L C e 0 < e) || decide (minL (chosen L C e) < 0) then 8 else 0 := by
  unfold planC
  have n1 := hk.n1
  have h1 : ((C.length : Int) != (L.length : Int)) = false := by rw [hk.len]; simp
  have h2 : ((L.length : Int) == 0) = false := by simpa using (show L.length ≠ 0 by omega)
  have hv : L.any (fun b => !sndB b) = false := by
    rw [← Bool.not_eq_true, List.any_eq_true]
    rintro ⟨b, hb, hnb⟩
    obtain ⟨i, hi, rfl⟩ := List.getElem_of_mem hb
    have e1 : bL L i = L[i] := by
      show L.getD i ((0, 0, 0, 0), 0, 0, 0, 0) = L[i]
      rw [List.getD, List.getElem?_eq_getElem hi]; rfl
    have := hk.snd i hi
    rw [e1] at this; rw [this] at hnb; cases hnb
  have h3 : (decide (e < 0) || decide (e > crB (bL L 0))) = false := by
    have := hk.e0; have := hk.e1
    rw [decide_eq_false (by omega), decide_eq_false (by omega)]; rfl
  rw [h1, hv, h2, h3]; rfl
theorem caps_mono (hk : ChOk L C e) (h : ∀ i, 0 < i → i < L.length → cI C' i ≤ cI C i) : ∀ i, i ≤ L.length → sq44 L C' e i ≤ sq44 L C e i := by
  refine sS_mono L.length (mO L C e L.length) (rO L) (fun i hi => ?_) (fun i hi => by have := hk.r hi; omega)
  unfold mO
  by_cases h0 : i = 0
  · rw [if_pos h0, if_pos h0]; omega
  · rw [if_neg h0, if_neg h0]
    by_cases h1 : i < L.length
    · rw [if_pos h1, if_pos h1]; have := h i (by omega) h1; omega
    · rw [if_neg h1, if_neg h1]; omega
theorem aca_run {n : Nat} (hn : n ≤ 40) {P : List Bk} {s s' : Nat → Int} (h : ∀ i, i ≤ n → s' i ≤ s i) : aca_cond (tab n (fun i => wS (bL P i) (s i) (s (i + 1))), tab n (fun i => wS (bL P i) (s' i) (s' (i + 1))), (n : Int)) (false, (0 : Int)) = true ∧
    aca_g (tab n (fun i => wS (bL P i) (s i) (s (i + 1))), tab n (fun i => wS (bL P i) (s' i) (s' (i + 1))), (n : Int)) (false, (0 : Int)) = (1, (false, (n : Int))) := by
  refine run_steps (step := aca_step (tab n (fun i => wS (bL P i) (s i) (s (i + 1))), tab n (fun i => wS (bL P i) (s' i) (s' (i + 1))), (n : Int))) (St := fun j => (false, (j : Int))) (n := n) ?_ n 0 (Nat.zero_add _) (fun j _ hj => ?_)
  · simp only [aca_step, Tr.val, Int.lt_irrefl, decide_false, cond_false]
  · have c1 : decide ((j : Int) < (n : Int)) = true := decide_eq_true (by omega)
    have c2 : decide ((0 : Int) ≤ (j : Int)) = true := decide_eq_true (by omega)
    have c3 : decide ((j : Int) ≥ (n : Int)) = false := decide_eq_false (by omega)
    have w1 : IntKind.wrap IntKind.i64 ((j : Int) + 1) = ((j + 1 : Nat) : Int) := by rw [wid (by omega) (by omega)]; omega
    have d1 : decide (s' j > s j) = false := decide_eq_false (by have := h j (by omega); omega)
    have d2 : decide (s' (j + 1) > s (j + 1)) = false := decide_eq_false (by have := h (j + 1) (by omega); omega)
    simp only [aca_step, Tr.val, c1, c2, c3, w1, tab_length, el_tab hj, wS, d1, d2, Bool.and_self, cond_true, cond_false]
end
set_option maxRecDepth 100000 in
theorem law_AheadCaps_tree (L : (Ty.list (.prod (.prod (.int .i64) (.prod (.int .i64) (.prod (.int .i64) (.int .i64)))) (.prod (.int .i64) (.prod (.int .i64) (.prod (.int .i64) (.int .i64)))))).den) (C : (Ty.list (.int .i64)).den) (e : Int) (a : Int) (b : Int) : evalF Try.prog abF_S62 (opens []) abG_L63 9 7 [.ag [.d false false (.prod (.prod (.int .i64) (.prod (.int .i64) (.prod (.int .i64) (.int .i64)))) (.prod (.int .i64) (.prod (.int .i64) (.prod (.int .i64) (.int .i64))))) L, .d false false (.int .i64) C, .v false (.int .i64 e)], .one (.v false (.int .u8 a)), .one (.v false (.int .u8 b))] = .br ((bif bif !bif decide ((↑(List.length L) : Int) ≤ (40 : Int)) then decide ((↑(List.length C) : Int) ≤ (40 : Int)) else false then true else (↑(List.length C) : Int) == (0 : Int) then true else ((decide (((0 : Nat) + List.length C) * (8 : Nat) ≤ maxNew) && decide ((0 : Nat) + List.length C ≤ maxLen)) && (((↑(List.length C) : Int) != (0 : Int)) && ((decide ((0 : Int) ≤ Int.tmod (IntKind.wrap IntKind.i64 a) (↑(List.length C) : Int)) && decide (Int.tmod (IntKind.wrap IntKind.i64 a) (↑(List.length C) : Int) < (↑(List.length C) : Int))) && ((decide (Int.toNat (Int.tmod (IntKind.wrap IntKind.i64 a) (↑(List.length C) : Int)) < List.length C)) && ((decide ((0 : Int) ≤ Int.tmod (IntKind.wrap IntKind.i64 a) (↑(List.length C) : Int)) && decide (Int.tmod (IntKind.wrap IntKind.i64 a) (↑(List.length C) : Int) < (↑(List.length C) : Int))) && ((decide (Int.toNat (Int.tmod (IntKind.wrap IntKind.i64 a) (↑(List.length C) : Int)) < List.length C)) && ((decide (List.length L ≤ (40 : Nat)) && capB C) && ((decide (List.length L ≤ (40 : Nat)) && capB (List.set C (Int.toNat (Int.tmod (IntKind.wrap IntKind.i64 a) (↑(List.length C) : Int))) (IntKind.wrap IntKind.i64 ((if (-4611686018427387904 : Int) > el_i C (Int.tmod (IntKind.wrap IntKind.i64 a) (↑(List.length C) : Int)) then (-4611686018427387904 : Int) else el_i C (Int.tmod (IntKind.wrap IntKind.i64 a) (↑(List.length C) : Int))) - IntKind.wrap IntKind.i64 b)))) && (bif planC L C e != (0 : Int) then true else ((aca_cond (planL L C e, planL L (List.set C (Int.toNat (Int.tmod (IntKind.wrap IntKind.i64 a) (↑(List.length C) : Int))) (IntKind.wrap IntKind.i64 ((if (-4611686018427387904 : Int) > el_i C (Int.tmod (IntKind.wrap IntKind.i64 a) (↑(List.length C) : Int)) then (-4611686018427387904 : Int) else el_i C (Int.tmod (IntKind.wrap IntKind.i64 a) (↑(List.length C) : Int))) - IntKind.wrap IntKind.i64 b))) e, (↑(List.length (planL L (List.set C (Int.toNat (Int.tmod (IntKind.wrap IntKind.i64 a) (↑(List.length C) : Int))) (IntKind.wrap IntKind.i64 ((if (-4611686018427387904 : Int) > el_i C (Int.tmod (IntKind.wrap IntKind.i64 a) (↑(List.length C) : Int)) then (-4611686018427387904 : Int) else el_i C (Int.tmod (IntKind.wrap IntKind.i64 a) (↑(List.length C) : Int))) - IntKind.wrap IntKind.i64 b))) e)) : Int)) (false, (0 : Int))) && (bif Nat.beq (Prod.fst (aca_g (planL L C e, planL L (List.set C (Int.toNat (Int.tmod (IntKind.wrap IntKind.i64 a) (↑(List.length C) : Int))) (IntKind.wrap IntKind.i64 ((if (-4611686018427387904 : Int) > el_i C (Int.tmod (IntKind.wrap IntKind.i64 a) (↑(List.length C) : Int)) then (-4611686018427387904 : Int) else el_i C (Int.tmod (IntKind.wrap IntKind.i64 a) (↑(List.length C) : Int))) - IntKind.wrap IntKind.i64 b))) e, (↑(List.length (planL L (List.set C (Int.toNat (Int.tmod (IntKind.wrap IntKind.i64 a) (↑(List.length C) : Int))) (IntKind.wrap IntKind.i64 ((if (-4611686018427387904 : Int) > el_i C (Int.tmod (IntKind.wrap IntKind.i64 a) (↑(List.length C) : Int)) then (-4611686018427387904 : Int) else el_i C (Int.tmod (IntKind.wrap IntKind.i64 a) (↑(List.length C) : Int))) - IntKind.wrap IntKind.i64 b))) e)) : Int)) (false, (0 : Int)))) (0 : Nat) then true else (Nat.beq (Prod.fst (aca_g (planL L C e, planL L (List.set C (Int.toNat (Int.tmod (IntKind.wrap IntKind.i64 a) (↑(List.length C) : Int))) (IntKind.wrap IntKind.i64 ((if (-4611686018427387904 : Int) > el_i C (Int.tmod (IntKind.wrap IntKind.i64 a) (↑(List.length C) : Int)) then (-4611686018427387904 : Int) else el_i C (Int.tmod (IntKind.wrap IntKind.i64 a) (↑(List.length C) : Int))) - IntKind.wrap IntKind.i64 b))) e, (↑(List.length (planL L (List.set C (Int.toNat (Int.tmod (IntKind.wrap IntKind.i64 a) (↑(List.length C) : Int))) (IntKind.wrap IntKind.i64 ((if (-4611686018427387904 : Int) > el_i C (Int.tmod (IntKind.wrap IntKind.i64 a) (↑(List.length C) : Int)) then (-4611686018427387904 : Int) else el_i C (Int.tmod (IntKind.wrap IntKind.i64 a) (↑(List.length C) : Int))) - IntKind.wrap IntKind.i64 b))) e)) : Int)) (false, (0 : Int)))) (1 : Nat))))))))))))))) (.ret (.one (.v false (.bool (bif bif !bif decide ((↑(List.length L) : Int) ≤ (40 : Int)) then decide ((↑(List.length C) : Int) ≤ (40 : Int)) else false then true else (↑(List.length C) : Int) == (0 : Int) then true else bif planC L C e != (0 : Int) then bif planC L (List.set C (Int.toNat (Int.tmod (IntKind.wrap IntKind.i64 a) (↑(List.length C) : Int))) (IntKind.wrap IntKind.i64 ((if (-4611686018427387904 : Int) > el_i C (Int.tmod (IntKind.wrap IntKind.i64 a) (↑(List.length C) : Int)) then (-4611686018427387904 : Int) else el_i C (Int.tmod (IntKind.wrap IntKind.i64 a) (↑(List.length C) : Int))) - IntKind.wrap IntKind.i64 b))) e == planC L C e then true else false else bif Nat.beq (Prod.fst (aca_g (planL L C e, planL L (List.set C (Int.toNat (Int.tmod (IntKind.wrap IntKind.i64 a) (↑(List.length C) : Int))) (IntKind.wrap IntKind.i64 ((if (-4611686018427387904 : Int) > el_i C (Int.tmod (IntKind.wrap IntKind.i64 a) (↑(List.length C) : Int)) then (-4611686018427387904 : Int) else el_i C (Int.tmod (IntKind.wrap IntKind.i64 a) (↑(List.length C) : Int))) - IntKind.wrap IntKind.i64 b))) e, (↑(List.length (planL L (List.set C (Int.toNat (Int.tmod (IntKind.wrap IntKind.i64 a) (↑(List.length C) : Int))) (IntKind.wrap IntKind.i64 ((if (-4611686018427387904 : Int) > el_i C (Int.tmod (IntKind.wrap IntKind.i64 a) (↑(List.length C) : Int)) then (-4611686018427387904 : Int) else el_i C (Int.tmod (IntKind.wrap IntKind.i64 a) (↑(List.length C) : Int))) - IntKind.wrap IntKind.i64 b))) e)) : Int)) (false, (0 : Int)))) (0 : Nat) then Prod.fst (Prod.snd (aca_g (planL L C e, planL L (List.set C (Int.toNat (Int.tmod (IntKind.wrap IntKind.i64 a) (↑(List.length C) : Int))) (IntKind.wrap IntKind.i64 ((if (-4611686018427387904 : Int) > el_i C (Int.tmod (IntKind.wrap IntKind.i64 a) (↑(List.length C) : Int)) then (-4611686018427387904 : Int) else el_i C (Int.tmod (IntKind.wrap IntKind.i64 a) (↑(List.length C) : Int))) - IntKind.wrap IntKind.i64 b))) e, (↑(List.length (planL L (List.set C (Int.toNat (Int.tmod (IntKind.wrap IntKind.i64 a) (↑(List.length C) : Int))) (IntKind.wrap IntKind.i64 ((if (-4611686018427387904 : Int) > el_i C (Int.tmod (IntKind.wrap IntKind.i64 a) (↑(List.length C) : Int)) then (-4611686018427387904 : Int) else el_i C (Int.tmod (IntKind.wrap IntKind.i64 a) (↑(List.length C) : Int))) - IntKind.wrap IntKind.i64 b))) e)) : Int)) (false, (0 : Int)))) else true))))) (.bad 116) := by kernel_rfl
set_option maxHeartbeats 4000000 in
theorem law_AheadCaps_all (L : (Ty.list (.prod (.prod (.int .i64) (.prod (.int .i64) (.prod (.int .i64) (.int .i64)))) (.prod (.int .i64) (.prod (.int .i64) (.prod (.int .i64) (.int .i64)))))).den) (C : (Ty.list (.int .i64)).den) (e : Int) (a : Int) (b : Int) (r0 : Ty.InR (.prod (.list (.prod (.prod (.int .i64) (.prod (.int .i64) (.prod (.int .i64) (.int .i64)))) (.prod (.int .i64) (.prod (.int .i64) (.prod (.int .i64) (.int .i64)))))) (.prod (.list (.int .i64)) (.int .i64))) (L, (C, e))) (l1 : 0 ≤ a) (g1 : a ≤ 255) (l2 : 0 ≤ b) (g2 : b ≤ 255) : Tr.all (fun r => ∃ kn, r = AV.one (.v kn (.bool true))) (.br ((bif bif !bif decide ((↑(List.length L) : Int) ≤ (40 : Int)) then decide ((↑(List.length C) : Int) ≤ (40 : Int)) else false then true else (↑(List.length C) : Int) == (0 : Int) then true else ((decide (((0 : Nat) + List.length C) * (8 : Nat) ≤ maxNew) && decide ((0 : Nat) + List.length C ≤ maxLen)) && (((↑(List.length C) : Int) != (0 : Int)) && ((decide ((0 : Int) ≤ Int.tmod (IntKind.wrap IntKind.i64 a) (↑(List.length C) : Int)) && decide (Int.tmod (IntKind.wrap IntKind.i64 a) (↑(List.length C) : Int) < (↑(List.length C) : Int))) && ((decide (Int.toNat (Int.tmod (IntKind.wrap IntKind.i64 a) (↑(List.length C) : Int)) < List.length C)) && ((decide ((0 : Int) ≤ Int.tmod (IntKind.wrap IntKind.i64 a) (↑(List.length C) : Int)) && decide (Int.tmod (IntKind.wrap IntKind.i64 a) (↑(List.length C) : Int) < (↑(List.length C) : Int))) && ((decide (Int.toNat (Int.tmod (IntKind.wrap IntKind.i64 a) (↑(List.length C) : Int)) < List.length C)) && ((decide (List.length L ≤ (40 : Nat)) && capB C) && ((decide (List.length L ≤ (40 : Nat)) && capB (List.set C (Int.toNat (Int.tmod (IntKind.wrap IntKind.i64 a) (↑(List.length C) : Int))) (IntKind.wrap IntKind.i64 ((if (-4611686018427387904 : Int) > el_i C (Int.tmod (IntKind.wrap IntKind.i64 a) (↑(List.length C) : Int)) then (-4611686018427387904 : Int) else el_i C (Int.tmod (IntKind.wrap IntKind.i64 a) (↑(List.length C) : Int))) - IntKind.wrap IntKind.i64 b)))) && (bif planC L C e != (0 : Int) then true else ((aca_cond (planL L C e, planL L (List.set C (Int.toNat (Int.tmod (IntKind.wrap IntKind.i64 a) (↑(List.length C) : Int))) (IntKind.wrap IntKind.i64 ((if (-4611686018427387904 : Int) > el_i C (Int.tmod (IntKind.wrap IntKind.i64 a) (↑(List.length C) : Int)) then (-4611686018427387904 : Int) else el_i C (Int.tmod (IntKind.wrap IntKind.i64 a) (↑(List.length C) : Int))) - IntKind.wrap IntKind.i64 b))) e, (↑(List.length (planL L (List.set C (Int.toNat (Int.tmod (IntKind.wrap IntKind.i64 a) (↑(List.length C) : Int))) (IntKind.wrap IntKind.i64 ((if (-4611686018427387904 : Int) > el_i C (Int.tmod (IntKind.wrap IntKind.i64 a) (↑(List.length C) : Int)) then (-4611686018427387904 : Int) else el_i C (Int.tmod (IntKind.wrap IntKind.i64 a) (↑(List.length C) : Int))) - IntKind.wrap IntKind.i64 b))) e)) : Int)) (false, (0 : Int))) && (bif Nat.beq (Prod.fst (aca_g (planL L C e, planL L (List.set C (Int.toNat (Int.tmod (IntKind.wrap IntKind.i64 a) (↑(List.length C) : Int))) (IntKind.wrap IntKind.i64 ((if (-4611686018427387904 : Int) > el_i C (Int.tmod (IntKind.wrap IntKind.i64 a) (↑(List.length C) : Int)) then (-4611686018427387904 : Int) else el_i C (Int.tmod (IntKind.wrap IntKind.i64 a) (↑(List.length C) : Int))) - IntKind.wrap IntKind.i64 b))) e, (↑(List.length (planL L (List.set C (Int.toNat (Int.tmod (IntKind.wrap IntKind.i64 a) (↑(List.length C) : Int))) (IntKind.wrap IntKind.i64 ((if (-4611686018427387904 : Int) > el_i C (Int.tmod (IntKind.wrap IntKind.i64 a) (↑(List.length C) : Int)) then (-4611686018427387904 : Int) else el_i C (Int.tmod (IntKind.wrap IntKind.i64 a) (↑(List.length C) : Int))) - IntKind.wrap IntKind.i64 b))) e)) : Int)) (false, (0 : Int)))) (0 : Nat) then true else (Nat.beq (Prod.fst (aca_g (planL L C e, planL L (List.set C (Int.toNat (Int.tmod (IntKind.wrap IntKind.i64 a) (↑(List.length C) : Int))) (IntKind.wrap IntKind.i64 ((if (-4611686018427387904 : Int) > el_i C (Int.tmod (IntKind.wrap IntKind.i64 a) (↑(List.length C) : Int)) then (-4611686018427387904 : Int) else el_i C (Int.tmod (IntKind.wrap IntKind.i64 a) (↑(List.length C) : Int))) - IntKind.wrap IntKind.i64 b))) e, (↑(List.length (planL L (List.set C (Int.toNat (Int.tmod (IntKind.wrap IntKind.i64 a) (↑(List.length C) : Int))) (IntKind.wrap IntKind.i64 ((if (-4611686018427387904 : Int) > el_i C (Int.tmod (IntKind.wrap IntKind.i64 a) (↑(List.length C) : Int)) then (-4611686018427387904 : Int) else el_i C (Int.tmod (IntKind.wrap IntKind.i64 a) (↑(List.length C) : Int))) - IntKind.wrap IntKind.i64 b))) e)) : Int)) (false, (0 : Int)))) (1 : Nat))))))))))))))) (.ret (.one (.v false (.bool (bif bif !bif decide ((↑(List.length L) : Int) ≤ (40 : Int)) then decide ((↑(List.length C) : Int) ≤ (40 : Int)) else false then true else (↑(List.length C) : Int) == (0 : Int) then true else bif planC L C e != (0 : Int) then bif planC L (List.set C (Int.toNat (Int.tmod (IntKind.wrap IntKind.i64 a) (↑(List.length C) : Int))) (IntKind.wrap IntKind.i64 ((if (-4611686018427387904 : Int) > el_i C (Int.tmod (IntKind.wrap IntKind.i64 a) (↑(List.length C) : Int)) then (-4611686018427387904 : Int) else el_i C (Int.tmod (IntKind.wrap IntKind.i64 a) (↑(List.length C) : Int))) - IntKind.wrap IntKind.i64 b))) e == planC L C e then true else false else bif Nat.beq (Prod.fst (aca_g (planL L C e, planL L (List.set C (Int.toNat (Int.tmod (IntKind.wrap IntKind.i64 a) (↑(List.length C) : Int))) (IntKind.wrap IntKind.i64 ((if (-4611686018427387904 : Int) > el_i C (Int.tmod (IntKind.wrap IntKind.i64 a) (↑(List.length C) : Int)) then (-4611686018427387904 : Int) else el_i C (Int.tmod (IntKind.wrap IntKind.i64 a) (↑(List.length C) : Int))) - IntKind.wrap IntKind.i64 b))) e, (↑(List.length (planL L (List.set C (Int.toNat (Int.tmod (IntKind.wrap IntKind.i64 a) (↑(List.length C) : Int))) (IntKind.wrap IntKind.i64 ((if (-4611686018427387904 : Int) > el_i C (Int.tmod (IntKind.wrap IntKind.i64 a) (↑(List.length C) : Int)) then (-4611686018427387904 : Int) else el_i C (Int.tmod (IntKind.wrap IntKind.i64 a) (↑(List.length C) : Int))) - IntKind.wrap IntKind.i64 b))) e)) : Int)) (false, (0 : Int)))) (0 : Nat) then Prod.fst (Prod.snd (aca_g (planL L C e, planL L (List.set C (Int.toNat (Int.tmod (IntKind.wrap IntKind.i64 a) (↑(List.length C) : Int))) (IntKind.wrap IntKind.i64 ((if (-4611686018427387904 : Int) > el_i C (Int.tmod (IntKind.wrap IntKind.i64 a) (↑(List.length C) : Int)) then (-4611686018427387904 : Int) else el_i C (Int.tmod (IntKind.wrap IntKind.i64 a) (↑(List.length C) : Int))) - IntKind.wrap IntKind.i64 b))) e, (↑(List.length (planL L (List.set C (Int.toNat (Int.tmod (IntKind.wrap IntKind.i64 a) (↑(List.length C) : Int))) (IntKind.wrap IntKind.i64 ((if (-4611686018427387904 : Int) > el_i C (Int.tmod (IntKind.wrap IntKind.i64 a) (↑(List.length C) : Int)) then (-4611686018427387904 : Int) else el_i C (Int.tmod (IntKind.wrap IntKind.i64 a) (↑(List.length C) : Int))) - IntKind.wrap IntKind.i64 b))) e)) : Int)) (false, (0 : Int)))) else true))))) (.bad 116)) := by
  have hcap : capOk C := cap_of r0.2.1
  have hcb := capB_of hcap
  by_cases hs : L.length ≤ 40 ∧ C.length ≤ 40
  rotate_left
  · simp only [short_f hs, Bool.not_false, cond_true]
    exact ⟨fun _ => ⟨_, rfl⟩, fun h => by cases h⟩
  have h40 : decide (L.length ≤ 40) = true := decide_eq_true hs.1
  by_cases hz : C.length = 0
  · have : ((C.length : Int) == 0) = true := by simp [hz]
    simp only [this, short_t hs, Bool.not_true, cond_false, cond_true]
    exact ⟨fun _ => ⟨_, rfl⟩, fun h => by cases h⟩
  have hz1 : ((C.length : Int) == 0) = false := by simpa using hz
  have hz2 : ((C.length : Int) != 0) = true := by simpa using hz
  have wa : IntKind.wrap IntKind.i64 a = a := wid (by omega) (by omega)
  have wb : IntKind.wrap IntKind.i64 b = b := wid (by omega) (by omega)
  have hm : 0 ≤ Int.tmod a (C.length : Int) ∧ Int.tmod a (C.length : Int) < (C.length : Int) := ⟨Int.tmod_nonneg _ (by omega), Int.tmod_lt_of_pos _ (by omega)⟩
  generalize hk0 : Int.tmod a (C.length : Int) = k0 at *
  obtain ⟨k, rfl⟩ : ∃ k : Nat, k0 = (k : Int) := ⟨k0.toNat, by omega⟩
  have c1 : (decide ((0 : Int) ≤ (k : Int)) && decide ((k : Int) < (C.length : Int))) = true := by simp only [Bool.and_eq_true, decide_eq_true_eq]; omega
  have c2 : decide (k < C.length) = true := decide_eq_true (by omega)
  have c3 : (decide (((0 : Nat) + C.length) * (8 : Nat) ≤ maxNew) && decide ((0 : Nat) + C.length ≤ maxLen)) = true := by simp only [Bool.and_eq_true, decide_eq_true_eq]; exact ⟨by simp [maxNew]; omega, by simp [maxLen]; omega⟩
  have g1 : el_i C (k : Int) = cI C k := rfl
  have hck := hcap k (by omega)
  have wv : IntKind.wrap IntKind.i64 (max (cI C k) (-4611686018427387904) - b) = max (cI C k) (-4611686018427387904) - b := wid (by omega) (by omega)
  have hgt : (if (-4611686018427387904 : Int) > cI C k then (-4611686018427387904 : Int) else cI C k) = max (cI C k) (-4611686018427387904) := ite_max _ _
  simp only [short_t hs, hz1, hz2, wa, wb, hk0, c1, c2, c3, Int.toNat_natCast, g1, hgt, wv, h40, hcb, Bool.not_true, cond_false, Bool.and_self, Bool.true_and]
  generalize hv : max (cI C k) (-4611686018427387904) - b = v
  have gl : (List.set C k v).length = C.length := List.length_set
  have hkl : k < C.length := by omega
  have gk : ∀ i, cI (List.set C k v) i = if i = k then v else cI C i := fun i => by
    show (List.set C k v).getD i 0 = _
    by_cases h : i = k
    · subst h
      rw [if_pos rfl, List.getD, List.getElem?_set_self hkl]; rfl
    · rw [if_neg h, List.getD, List.getElem?_set_ne (fun e => h e.symm)]; rfl
  have hcap' : capOk (List.set C k v) := fun i hi => by
    rw [gk]
    by_cases h : i = k
    · rw [if_pos h]; omega
    · rw [if_neg h]; exact hcap i (by omega)
  have hcb' := capB_of hcap'
  generalize List.set C k v = C' at *
  simp only [hcb', Bool.true_and]
  have ok' : ChOk L C e → ChOk L C' e := fun h => ⟨h.n1, h.n40, by rw [gl]; exact h.len, h.snd, fun i hi => hcap' i (by have := h.len; omega), h.e0, h.e1⟩
  rcases plan_cases (e := e) hs.1 hcap with ⟨h1, h2, hw⟩ | ⟨h1, hl, hn, h2⟩ | ⟨h1, hk, h0, hp, h2⟩
  · have same : planC L C' e = planC L C e := by
      rcases hw with h | h | h | ⟨hk, h⟩
      · rw [planC_R1 (.inl h), planC_R1 (.inl (by rw [gl]; exact h))]
      · rw [planC_R1 (.inr (.inl h)), planC_R1 (.inr (.inl h))]
      · rw [planC_R1 (.inr (.inr h)), planC_R1 (.inr (.inr h))]
      · have n1 := hk.n1
        have hk' := ok' hk
        have b1 : sq44 L C e 0 < e ∨ minL (chosen L C e) < 0 := h.imp id chosen_neg.2
        have b2 : sq44 L C' e 0 < e ∨ minL (chosen L C' e) < 0 := by
          by_cases hbad : 0 < k ∧ k < L.length ∧ cI C k < -4611686018427387904
          · have q := ((sq_m hk').2.2 k hbad.1 hbad.2.1).1
            rw [gk k, if_pos rfl] at q
            have q2 : v < 0 := by rw [← hv]; exact v_neg l2 hbad.2.2
            have q3 : k ≤ L.length := by omega
            exact .inr (chosen_neg.2 ⟨k, q3, Int.lt_of_le_of_lt q q2⟩)
          · have mono := caps_mono (C' := C') hk (fun i h0 hi => by
              rw [gk]
              by_cases hik : i = k
              · rw [if_pos hik]; subst hik; omega
              · rw [if_neg hik]; omega)
            rcases h with h | ⟨i, hi, h⟩
            · have := mono 0 (by omega); exact .inl (by omega)
            · have := mono i hi; exact .inr (chosen_neg.2 ⟨i, hi, by omega⟩)
        have d1 : (decide (sq44 L C e 0 < e) || decide (minL (chosen L C e) < 0)) = true := by simpa using b1
        have d2 : (decide (sq44 L C' e 0 < e) || decide (minL (chosen L C' e) < 0)) = true := by simpa using b2
        rw [planC_ok hk, planC_ok hk', d1, d2]
    simp only [bne_t h1, same, beq_self_eq_true, cond_true]
    exact ⟨fun _ => ⟨_, rfl⟩, fun h => by cases h⟩
  · omega
  · have z1 : Nat.beq 1 0 = false := rfl
    have z2 : Nat.beq 1 1 = true := rfl
    rcases plan_cases (C := C') (e := e) hs.1 hcap' with ⟨h1', h2', hw⟩ | ⟨h1', hl, hn, h2'⟩ | ⟨h1', hk', h0', hp', h2'⟩
    · obtain ⟨r1, r2⟩ := loop0 (step := aca_step (planL L C e, ([] : List Bk), (0 : Int))) (v := (false, (0 : Int))) (t := (1, (false, (0 : Int)))) rfl
      have r1 : aca_cond (planL L C e, ([] : List Bk), (0 : Int)) (false, (0 : Int)) = true := r1
      have r2 : aca_g (planL L C e, ([] : List Bk), (0 : Int)) (false, (0 : Int)) = _ := r2
      have e1 : ((0 : Nat) : Int) = 0 := rfl
      simp only [h1, h2', List.length_nil, e1, bne_self_eq_false, r1, r2, z1, z2, cond_false, Bool.true_and]
      exact ⟨fun _ => ⟨_, rfl⟩, fun h => by cases h⟩
    · have := hk.n1; omega
    · have mono := caps_mono (C' := C') hk (fun i h0 hi => by
        rw [gk]
        by_cases hik : i = k
        · subst hik
          rw [if_pos rfl]
          have := (sq_m hk).2.2 i h0 hi
          have := hp i (by omega)
          omega
        · rw [if_neg hik]; omega)
      obtain ⟨r1, r2⟩ := aca_run (P := L) hk.n40 mono
      simp only [h1, h2, h2', tab_length, bne_self_eq_false, r1, r2, z1, z2, cond_false, Bool.true_and]
      exact ⟨fun _ => ⟨_, rfl⟩, fun h => by cases h⟩
set_option maxHeartbeats 4000000 in
theorem law_AheadCaps (v0 : Value) (x0 : ((.prod (.list (.prod (.prod (.int .i64) (.prod (.int .i64) (.prod (.int .i64) (.int .i64)))) (.prod (.int .i64) (.prod (.int .i64) (.prod (.int .i64) (.int .i64)))))) (.prod (.list (.int .i64)) (.int .i64))) : Ty).den) (r0 : Ty.InR (.prod (.list (.prod (.prod (.int .i64) (.prod (.int .i64) (.prod (.int .i64) (.int .i64)))) (.prod (.int .i64) (.prod (.int .i64) (.prod (.int .i64) (.int .i64)))))) (.prod (.list (.int .i64)) (.int .i64))) x0) (a : Int) (l1 : 0 ≤ a) (g1 : a ≤ 255) (b : Int) (l2 : 0 ≤ b) (g2 : b ≤ 255) (z_w : World) (i0 : (AV.ag (Ty.cells false (.prod (.list (.prod (.prod (.int .i64) (.prod (.int .i64) (.prod (.int .i64) (.int .i64)))) (.prod (.int .i64) (.prod (.int .i64) (.prod (.int .i64) (.int .i64)))))) (.prod (.list (.int .i64)) (.int .i64))) x0)).is [] (fun _ => none) (fun b => b < z_w.heap.size) z_w v0) : Calls Try.prog 7 #[v0, .int .u8 a, .int .u8 b] z_w fun e w' => e = .returned (.bool true) ∧ Ext z_w w' := by
  obtain ⟨L, ⟨C, e⟩⟩ := x0
  refine law_of_tree (by kernel_rfl) (abF_S62_ok) (abG_L63_ok) (law_AheadCaps_tree L C e a b) (law_AheadCaps_all L C e a b r0 l1 g1 l2 g2) rfl z_w _ _ (fun _ h => h) ⟨_, _, rfl, i0, ⟨_, _, rfl, rfl, ⟨_, _, rfl, rfl, rfl⟩⟩⟩
end Go.Proofs.Ytaidlflnkdamkaa
