/-
  Layer 44: the laws Greatest, Tight.
-/
import Derived.Test.YtaidlflnkdamkaaProg
import Derived.Test.YtaidlflnkdamkaaFvX
import Derived.Test.YtaidlflnkdamkaaFvZ
import Derived.Test.YtaidlflnkdamkaaAut
import Derived.Test.YtaidlflnkdamkaaAbA
import Derived.Test.YtaidlflnkdamkaaAbB
import Derived.Test.YtaidlflnkdamkaaAbM
import Derived.Test.YtaidlflnkdamkaaAbN
import Derived.Test.YtaidlflnkdamkaaAbC
import Derived.Test.YtaidlflnkdamkaaAbD
import Derived.Test.YtaidlflnkdamkaaAbE
import Derived.Test.YtaidlflnkdamkaaAbP
import Derived.Test.YtaidlflnkdamkaaAbF
import Derived.Test.YtaidlflnkdamkaaAbG
import Derived.Test.YtaidlflnkdamkaaAbH
namespace Go.Proofs.Ytaidlflnkdamkaa
open Go
theorem cap_of {C : List Int} (h : Ty.InR (.list (.int .i64)) C) : capOk C := fun i hi => by
  have hx : C[i] ∈ C := List.getElem_mem hi
  have := i64_range (h.2 _ hx)
  have e : cI C i = C[i] := by
    show C.getD i 0 = C[i]
    rw [List.getD, List.getElem?_eq_getElem hi]; rfl
  rw [e]
  exact this
theorem capB_of {C : List Int} (h : capOk C) : capB C = true := @decide_eq_true _ (Classical.propDecidable _) h
theorem short_f {a b : Nat} (h : ¬ (a ≤ 40 ∧ b ≤ 40)) : (bif decide ((a : Int) ≤ (40 : Int)) then decide ((b : Int) ≤ (40 : Int)) else false) = false := by
  by_cases h1 : a ≤ 40
  · rw [decide_eq_true (show (a : Int) ≤ 40 by omega), cond_true]; exact decide_eq_false (by omega)
  · rw [decide_eq_false (show ¬ (a : Int) ≤ 40 by omega), cond_false]
theorem short_t {a b : Nat} (h : a ≤ 40 ∧ b ≤ 40) : (bif decide ((a : Int) ≤ (40 : Int)) then decide ((b : Int) ≤ (40 : Int)) else false) = true := by
  rw [decide_eq_true (show (a : Int) ≤ 40 by omega), cond_true]; exact decide_eq_true (by omega)
section
variable {L : BkL} {C : List Int} {e : Int}
theorem agr_run (hk : ChOk L C e) (right : Bool) (hr : right = true → feaB L C e = true) : agr_cond (tab L.length (fun i => wS (bL L i) (sq44 L C e i) (sq44 L C e (i + 1))), right, (L.length : Int), L, C, e) (false, (0 : Int)) = true ∧
    agr_g (tab L.length (fun i => wS (bL L i) (sq44 L C e i) (sq44 L C e (i + 1))), right, (L.length : Int), L, C, e) (false, (0 : Int)) = (1, (false, (L.length : Int))) := by
  have n40 := hk.n40
  refine run_steps (step := agr_step (tab L.length (fun i => wS (bL L i) (sq44 L C e i) (sq44 L C e (i + 1))), right, (L.length : Int), L, C, e)) (St := fun j => (false, (j : Int))) (n := L.length) ?_ L.length 0 (Nat.zero_add _) (fun j _ hj => ?_)
  · simp only [agr_step, Tr.val, Int.lt_irrefl, decide_false, cond_false]
  · have c1 : decide ((j : Int) < (L.length : Int)) = true := decide_eq_true (by omega)
    have c2 : decide ((0 : Int) ≤ (j : Int)) = true := decide_eq_true (by omega)
    have w1 : IntKind.wrap IntKind.i64 ((j : Int) + 1) = ((j + 1 : Nat) : Int) := by rw [wid (by omega) (by omega)]; omega
    have f0 : el_iiiiiiii L (j : Int) = bL L j := rfl
    have d : right = true → decide (sq44 L C e j < (bL L j).2.2.1) = false ∧ decide (sq44 L C e (j + 1) < (bL L j).2.2.2.2) = false := fun h => by
      have hn : L.length ≠ 0 := by omega
      obtain ⟨_, _, h2, h3⟩ := fea_below n40 (fun i hi => hk.cap i (by have := hk.len; omega)) (hr h) hn
      have a := (h2 j (by omega)).1
      have b := (h2 (j + 1) (by omega)).1
      have c := h3 j hj
      have e1 : (bL L j).2.2.1 = enB (bL L j) := rfl
      have e2 : (bL L j).2.2.2.2 = exB (bL L j) := rfl
      rw [e1, e2]
      exact ⟨decide_eq_false (by omega), decide_eq_false (by omega)⟩
    simp only [agr_step, Tr.val, c1, c2, w1, tab_length, el_tab hj, f0, wS, beq_self_eq_true, Bool.and_self, Bool.not_true, cond_true, cond_false]
    cases right
    · simp only [cond_false, cond_true]
    · obtain ⟨d1, d2⟩ := d rfl
      simp only [d1, d2, cond_false, cond_true, Bool.and_self]
theorem ati_run (hk : ChOk L C e) : ati_cond (tab L.length (fun i => wS (bL L i) (sq44 L C e i) (sq44 L C e (i + 1))), (0 : Int), L, C, e) (false, (1 : Int)) = true ∧
    ati_g (tab L.length (fun i => wS (bL L i) (sq44 L C e i) (sq44 L C e (i + 1))), (0 : Int), L, C, e) (false, (1 : Int)) = (1, (false, (L.length : Int))) := by
  have n40 := hk.n40
  have n1 := hk.n1
  have hlen := hk.len
  have c5 : ((L.length : Int) == (C.length : Int)) = true := by rw [hlen]; simp
  refine run_steps (step := ati_step (tab L.length (fun i => wS (bL L i) (sq44 L C e i) (sq44 L C e (i + 1))), (0 : Int), L, C, e)) (St := fun j => (false, (j : Int) + 1)) (n := L.length - 1) ?_ (L.length - 1) 0 (Nat.zero_add _) (fun j _ hj => ?_)
  · have e1 : ((L.length - 1 : Nat) : Int) + 1 = L.length := by omega
    rw [e1]
    simp only [ati_step, Tr.val, tab_length, Int.lt_irrefl, decide_false, cond_false]
  · have c1 : decide ((j : Int) + 1 < (L.length : Int)) = true := decide_eq_true (by omega)
    have c2 : decide ((0 : Int) ≤ (j : Int)) = true := decide_eq_true (by omega)
    have c3 : decide ((0 : Int) ≤ (j : Int) + 1) = true := decide_eq_true (by omega)
    have c4 : decide ((j : Int) < (L.length : Int)) = true := decide_eq_true (by omega)
    have c6 : decide ((j : Int) + 1 < (C.length : Int)) = true := decide_eq_true (by omega)
    have w1 : IntKind.wrap IntKind.i64 ((j : Int) + 1 - 1) = (j : Int) := by rw [wid (by omega) (by omega)]; omega
    have w2 : IntKind.wrap IntKind.i64 ((j : Int) + 1 + 1) = ((j + 1 : Nat) : Int) + 1 := by rw [wid (by omega) (by omega)]; omega
    have g1 : el_iiiiiiii (tab L.length (fun i => wS (bL L i) (sq44 L C e i) (sq44 L C e (i + 1)))) ((j : Int) + 1) = wS (bL L (j + 1)) (sq44 L C e (j + 1)) (sq44 L C e (j + 1 + 1)) := el_tab (i := j + 1) (by omega) _
    have g2 := el_tab (i := j) (n := L.length) (by omega) (fun i => wS (bL L i) (sq44 L C e i) (sq44 L C e (i + 1)))
    have g3 : el_i C ((j : Int) + 1) = cI C (j + 1) := rfl
    have r1 : ∀ i x y, reach (wS (bL L i) x y).1.1 (wS (bL L i) x y).1.2.1 (wS (bL L i) x y).1.2.2.1 (wS (bL L i) x y).1.2.2.2 (wS (bL L i) x y).2.1 = rO L i := fun _ _ _ => rfl
    have r2 : ∀ i x y, (wS (bL L i) x y).2.2.1 = x := fun _ _ _ => rfl
    have r3 : ∀ i x y, (wS (bL L i) x y).2.2.2.2 = y := fun _ _ _ => rfl
    have r4 : ∀ i x y, (wS (bL L i) x y).2.2.2.1 = crB (bL L i) := fun _ _ _ => rfl
    have R1 := hk.r (i := j) (by omega)
    have R2 := hk.r (i := j + 1) (by omega)
    have bd : ∀ i, i ≤ L.length → -9223372036854775808 ≤ sq44 L C e i ∧ sq44 L C e i ≤ 1099511627776 := fun i hi => ⟨sS_low _ _ _ (fun i _ => (hk.m i).1) (fun i hi => by have := hk.r hi; omega) hi, Int.le_trans (sS_m _ _ _ hi) (hk.m _).2⟩
    have B1 := bd j (by omega)
    have B2 := bd (j + 1 + 1) (by omega)
    have w3 : IntKind.wrap IntKind.i64 (sq44 L C e j + rO L j) = sq44 L C e j + rO L j := wid (by omega) (by omega)
    have w4 : IntKind.wrap IntKind.i64 (sq44 L C e (j + 1 + 1) + rO L (j + 1)) = sq44 L C e (j + 1 + 1) + rO L (j + 1) := wid (by omega) (by omega)
    simp only [ati_step, Tr.val, tab_length, c1, c2, c3, c4, c5, c6, w1, w2, g1, g2, g3, r1, r2, r3, r4, w3, w4, beq_self_eq_true, Bool.and_self, cond_true]
    have T := sq_tight hk (i := j + 1) (by omega) (by omega)
    rw [show j + 1 - 1 = j by omega] at T
    have fin : (bif bif bif bif sq44 L C e (j + 1) != cI C (j + 1) then sq44 L C e (j + 1) != crB (bL L j) else false then sq44 L C e (j + 1) != crB (bL L (j + 1)) else false then sq44 L C e (j + 1) != sq44 L C e j + rO L j else false then sq44 L C e (j + 1) != sq44 L C e (j + 1 + 1) + rO L (j + 1) else false) = false := by
      rcases T with h | h | h | h | h
      · rw [bne_f h]; rfl
      · rw [bne_f h]; cases (sq44 L C e (j + 1) != cI C (j + 1)) <;> rfl
      · rw [bne_f h]; cases (sq44 L C e (j + 1) != cI C (j + 1)) <;> cases (sq44 L C e (j + 1) != crB (bL L j)) <;> rfl
      · rw [bne_f h]; simp only [Bool.cond_false_right, Bool.and_false, Bool.false_and]
      · rw [bne_f h]; simp only [Bool.cond_false_right, Bool.and_false]
    rw [fin]; rfl
theorem loop0 {V : Type} {step : V → Tr (V ⊕ (Nat × V))} {v : V} {t : Nat × V} (h : (step v).val = some (.inr t)) : runC step v = true ∧ runG step v = t := run_end h
end
set_option maxRecDepth 100000 in
theorem law_AheadGreatest_tree (L : (Ty.list (.prod (.prod (.int .i64) (.prod (.int .i64) (.prod (.int .i64) (.int .i64)))) (.prod (.int .i64) (.prod (.int .i64) (.prod (.int .i64) (.int .i64)))))).den) (C : (Ty.list (.int .i64)).den) (e : Int) : evalF Try.prog abF_S62 (opens []) abG_L63 9 5 [.ag [.d false false (.prod (.prod (.int .i64) (.prod (.int .i64) (.prod (.int .i64) (.int .i64)))) (.prod (.int .i64) (.prod (.int .i64) (.prod (.int .i64) (.int .i64))))) L, .d false false (.int .i64) C, .v false (.int .i64 e)]] = .br ((bif !bif decide ((↑(List.length L) : Int) ≤ (40 : Int)) then decide ((↑(List.length C) : Int) ≤ (40 : Int)) else false then true else ((decide (List.length L ≤ (40 : Nat)) && capB C) && ((decide (List.length L ≤ (40 : Nat))) && (bif planC L C e != (0 : Int) then true else (bif (↑(List.length (planL L C e)) : Int) != (↑(List.length L) : Int) then (bif true then true else ((agr_cond (planL L C e, feaB L C e, (↑(List.length (planL L C e)) : Int), L, C, e) (false, (0 : Int))) && (bif Nat.beq (Prod.fst (agr_g (planL L C e, feaB L C e, (↑(List.length (planL L C e)) : Int), L, C, e) (false, (0 : Int)))) (0 : Nat) then true else (Nat.beq (Prod.fst (agr_g (planL L C e, feaB L C e, (↑(List.length (planL L C e)) : Int), L, C, e) (false, (0 : Int)))) (1 : Nat))))) else ((decide (List.length (planL L C e) ≤ (40 : Nat))) && (bif !feaB (planL L C e) C e then true else ((agr_cond (planL L C e, feaB L C e, (↑(List.length (planL L C e)) : Int), L, C, e) (false, (0 : Int))) && (bif Nat.beq (Prod.fst (agr_g (planL L C e, feaB L C e, (↑(List.length (planL L C e)) : Int), L, C, e) (false, (0 : Int)))) (0 : Nat) then true else (Nat.beq (Prod.fst (agr_g (planL L C e, feaB L C e, (↑(List.length (planL L C e)) : Int), L, C, e) (false, (0 : Int)))) (1 : Nat)))))))))))) (.ret (.one (.v false (.bool (bif !bif decide ((↑(List.length L) : Int) ≤ (40 : Int)) then decide ((↑(List.length C) : Int) ≤ (40 : Int)) else false then true else bif planC L C e != (0 : Int) then bif bif !feaB L C e then (↑(List.length (planL L C e)) : Int) == (0 : Int) else false then true else false else bif (↑(List.length (planL L C e)) : Int) != (↑(List.length L) : Int) then false else bif !feaB (planL L C e) C e then false else bif Nat.beq (Prod.fst (agr_g (planL L C e, feaB L C e, (↑(List.length (planL L C e)) : Int), L, C, e) (false, (0 : Int)))) (0 : Nat) then Prod.fst (Prod.snd (agr_g (planL L C e, feaB L C e, (↑(List.length (planL L C e)) : Int), L, C, e) (false, (0 : Int)))) else true))))) (.bad 116) := by kernel_rfl
set_option maxHeartbeats 4000000 in
theorem law_AheadGreatest_all (L : (Ty.list (.prod (.prod (.int .i64) (.prod (.int .i64) (.prod (.int .i64) (.int .i64)))) (.prod (.int .i64) (.prod (.int .i64) (.prod (.int .i64) (.int .i64)))))).den) (C : (Ty.list (.int .i64)).den) (e : Int) (r0 : Ty.InR (.prod (.list (.prod (.prod (.int .i64) (.prod (.int .i64) (.prod (.int .i64) (.int .i64)))) (.prod (.int .i64) (.prod (.int .i64) (.prod (.int .i64) (.int .i64)))))) (.prod (.list (.int .i64)) (.int .i64))) (L, (C, e)))  : Tr.all (fun r => ∃ kn, r = AV.one (.v kn (.bool true))) (.br ((bif !bif decide ((↑(List.length L) : Int) ≤ (40 : Int)) then decide ((↑(List.length C) : Int) ≤ (40 : Int)) else false then true else ((decide (List.length L ≤ (40 : Nat)) && capB C) && ((decide (List.length L ≤ (40 : Nat))) && (bif planC L C e != (0 : Int) then true else (bif (↑(List.length (planL L C e)) : Int) != (↑(List.length L) : Int) then (bif true then true else ((agr_cond (planL L C e, feaB L C e, (↑(List.length (planL L C e)) : Int), L, C, e) (false, (0 : Int))) && (bif Nat.beq (Prod.fst (agr_g (planL L C e, feaB L C e, (↑(List.length (planL L C e)) : Int), L, C, e) (false, (0 : Int)))) (0 : Nat) then true else (Nat.beq (Prod.fst (agr_g (planL L C e, feaB L C e, (↑(List.length (planL L C e)) : Int), L, C, e) (false, (0 : Int)))) (1 : Nat))))) else ((decide (List.length (planL L C e) ≤ (40 : Nat))) && (bif !feaB (planL L C e) C e then true else ((agr_cond (planL L C e, feaB L C e, (↑(List.length (planL L C e)) : Int), L, C, e) (false, (0 : Int))) && (bif Nat.beq (Prod.fst (agr_g (planL L C e, feaB L C e, (↑(List.length (planL L C e)) : Int), L, C, e) (false, (0 : Int)))) (0 : Nat) then true else (Nat.beq (Prod.fst (agr_g (planL L C e, feaB L C e, (↑(List.length (planL L C e)) : Int), L, C, e) (false, (0 : Int)))) (1 : Nat)))))))))))) (.ret (.one (.v false (.bool (bif !bif decide ((↑(List.length L) : Int) ≤ (40 : Int)) then decide ((↑(List.length C) : Int) ≤ (40 : Int)) else false then true else bif planC L C e != (0 : Int) then bif bif !feaB L C e then (↑(List.length (planL L C e)) : Int) == (0 : Int) else false then true else false else bif (↑(List.length (planL L C e)) : Int) != (↑(List.length L) : Int) then false else bif !feaB (planL L C e) C e then false else bif Nat.beq (Prod.fst (agr_g (planL L C e, feaB L C e, (↑(List.length (planL L C e)) : Int), L, C, e) (false, (0 : Int)))) (0 : Nat) then Prod.fst (Prod.snd (agr_g (planL L C e, feaB L C e, (↑(List.length (planL L C e)) : Int), L, C, e) (false, (0 : Int)))) else true))))) (.bad 116)) := by
  have hcap : capOk C := cap_of r0.2.1
  have hcb := capB_of hcap
  by_cases hs : L.length ≤ 40 ∧ C.length ≤ 40
  rotate_left
  · simp only [short_f hs, Bool.not_false, cond_true]
    exact ⟨fun _ => ⟨_, rfl⟩, fun h => by cases h⟩
  have h40 : decide (L.length ≤ 40) = true := decide_eq_true hs.1
  simp only [short_t hs, Bool.not_true, cond_false, h40, hcb, Bool.and_self, Bool.true_and]
  rcases plan_cases (e := e) hs.1 hcap with ⟨h1, h2, hw⟩ | ⟨h1, hl, hn, h2⟩ | ⟨h1, hk, h0, hp, h2⟩
  · have hf : feaB L C e = false := by
      rw [← Bool.not_eq_true]; intro hf
      obtain ⟨hl, hv, _⟩ := feaB_iff.1 hf
      rcases hw with h | ⟨i, hi, h⟩ | ⟨hn, h⟩ | ⟨hk, h⟩
      · exact h hl
      · have := (valB_in (hv i hi)).1; rw [h] at this; cases this
      · have ok := (fea_below hs.1 hcap hf hn).1
        have := ok.e0; have := ok.e1; omega
      · obtain ⟨_, t0, tb, _⟩ := fea_below hs.1 hcap hf (by have := hk.n1; omega)
        rcases h with h | ⟨i, hi, h⟩
        · have := (tb 0 (by omega)).1; omega
        · have := tb i hi; omega
    simp only [bne_t h1, h2, hf, cond_true, Bool.not_false, List.length_nil]
    exact ⟨fun _ => ⟨_, rfl⟩, fun h => by cases h⟩
  · have e0 : (([] : List Bk).length : Int) = (L.length : Int) := by rw [hn]; rfl
    have hLn : L = [] := List.length_eq_zero_iff.1 hn
    subst hLn
    have hCn : C = [] := List.length_eq_zero_iff.1 hl
    subst hCn
    have hf : feaB [] [] e = true := rfl
    obtain ⟨r1, r2⟩ := loop0 (step := agr_step (([] : List Bk), true, (0 : Int), ([] : List Bk), ([] : List Int), e)) (v := (false, (0 : Int))) (t := (1, (false, (0 : Int)))) rfl
    have r1 : agr_cond (([] : List Bk), true, (0 : Int), ([] : List Bk), ([] : List Int), e) (false, (0 : Int)) = true := r1
    have r2 : agr_g (([] : List Bk), true, (0 : Int), ([] : List Bk), ([] : List Int), e) (false, (0 : Int)) = _ := r2
    have z1 : Nat.beq 1 0 = false := rfl
    have z2 : Nat.beq 1 1 = true := rfl
    have z3 : decide ((0 : Nat) ≤ 40) = true := rfl
    have e1 : ((0 : Nat) : Int) = 0 := rfl
    simp only [h1, h2, hf, List.length_nil, e1, bne_self_eq_false, r1, r2, z1, z2, z3, cond_true, cond_false, Bool.not_true, Bool.true_and]
    exact ⟨fun _ => ⟨_, rfl⟩, fun h => by cases h⟩
  · have pf := plan_fea hk h0 hp
    obtain ⟨r1, r2⟩ := agr_run hk (feaB L C e) (fun h => h)
    have z1 : Nat.beq 1 0 = false := rfl
    have z2 : Nat.beq 1 1 = true := rfl
    simp only [h1, h2, tab_length, bne_self_eq_false, h40, pf, r1, r2, z1, z2, cond_true, cond_false, Bool.not_true, Bool.true_and]
    exact ⟨fun _ => ⟨_, rfl⟩, fun h => by cases h⟩
set_option maxHeartbeats 4000000 in
theorem law_AheadGreatest (v0 : Value) (x0 : ((.prod (.list (.prod (.prod (.int .i64) (.prod (.int .i64) (.prod (.int .i64) (.int .i64)))) (.prod (.int .i64) (.prod (.int .i64) (.prod (.int .i64) (.int .i64)))))) (.prod (.list (.int .i64)) (.int .i64))) : Ty).den) (r0 : Ty.InR (.prod (.list (.prod (.prod (.int .i64) (.prod (.int .i64) (.prod (.int .i64) (.int .i64)))) (.prod (.int .i64) (.prod (.int .i64) (.prod (.int .i64) (.int .i64)))))) (.prod (.list (.int .i64)) (.int .i64))) x0) (z_w : World) (i0 : (AV.ag (Ty.cells false (.prod (.list (.prod (.prod (.int .i64) (.prod (.int .i64) (.prod (.int .i64) (.int .i64)))) (.prod (.int .i64) (.prod (.int .i64) (.prod (.int .i64) (.int .i64)))))) (.prod (.list (.int .i64)) (.int .i64))) x0)).is [] (fun _ => none) (fun b => b < z_w.heap.size) z_w v0) : Calls Try.prog 5 #[v0] z_w fun e w' => e = .returned (.bool true) ∧ Ext z_w w' := by
  obtain ⟨L, ⟨C, e⟩⟩ := x0
  refine law_of_tree (by kernel_rfl) (abF_S62_ok) (abG_L63_ok) (law_AheadGreatest_tree L C e) (law_AheadGreatest_all L C e r0 ) rfl z_w _ _ (fun _ h => h) ⟨_, _, rfl, i0, rfl⟩
set_option maxRecDepth 100000 in
theorem law_AheadTight_tree (L : (Ty.list (.prod (.prod (.int .i64) (.prod (.int .i64) (.prod (.int .i64) (.int .i64)))) (.prod (.int .i64) (.prod (.int .i64) (.prod (.int .i64) (.int .i64)))))).den) (C : (Ty.list (.int .i64)).den) (e : Int) : evalF Try.prog abF_S62 (opens []) abG_L63 9 6 [.ag [.d false false (.prod (.prod (.int .i64) (.prod (.int .i64) (.prod (.int .i64) (.int .i64)))) (.prod (.int .i64) (.prod (.int .i64) (.prod (.int .i64) (.int .i64))))) L, .d false false (.int .i64) C, .v false (.int .i64 e)]] = .br ((bif !bif decide ((↑(List.length L) : Int) ≤ (40 : Int)) then decide ((↑(List.length C) : Int) ≤ (40 : Int)) else false then true else ((decide (List.length L ≤ (40 : Nat)) && capB C) && ((ati_cond (planL L C e, planC L C e, L, C, e) (false, (1 : Int))) && (bif Nat.beq (Prod.fst (ati_g (planL L C e, planC L C e, L, C, e) (false, (1 : Int)))) (0 : Nat) then true else (Nat.beq (Prod.fst (ati_g (planL L C e, planC L C e, L, C, e) (false, (1 : Int)))) (1 : Nat))))))) (.ret (.one (.v false (.bool (bif !bif decide ((↑(List.length L) : Int) ≤ (40 : Int)) then decide ((↑(List.length C) : Int) ≤ (40 : Int)) else false then true else bif Nat.beq (Prod.fst (ati_g (planL L C e, planC L C e, L, C, e) (false, (1 : Int)))) (0 : Nat) then Prod.fst (Prod.snd (ati_g (planL L C e, planC L C e, L, C, e) (false, (1 : Int)))) else true))))) (.bad 116) := by kernel_rfl
set_option maxHeartbeats 4000000 in
theorem law_AheadTight_all (L : (Ty.list (.prod (.prod (.int .i64) (.prod (.int .i64) (.prod (.int .i64) (.int .i64)))) (.prod (.int .i64) (.prod (.int .i64) (.prod (.int .i64) (.int .i64)))))).den) (C : (Ty.list (.int .i64)).den) (e : Int) (r0 : Ty.InR (.prod (.list (.prod (.prod (.int .i64) (.prod (.int .i64) (.prod (.int .i64) (.int .i64)))) (.prod (.int .i64) (.prod (.int .i64) (.prod (.int .i64) (.int .i64)))))) (.prod (.list (.int .i64)) (.int .i64))) (L, (C, e)))  : Tr.all (fun r => ∃ kn, r = AV.one (.v kn (.bool true))) (.br ((bif !bif decide ((↑(List.length L) : Int) ≤ (40 : Int)) then decide ((↑(List.length C) : Int) ≤ (40 : Int)) else false then true else ((decide (List.length L ≤ (40 : Nat)) && capB C) && ((ati_cond (planL L C e, planC L C e, L, C, e) (false, (1 : Int))) && (bif Nat.beq (Prod.fst (ati_g (planL L C e, planC L C e, L, C, e) (false, (1 : Int)))) (0 : Nat) then true else (Nat.beq (Prod.fst (ati_g (planL L C e, planC L C e, L, C, e) (false, (1 : Int)))) (1 : Nat))))))) (.ret (.one (.v false (.bool (bif !bif decide ((↑(List.length L) : Int) ≤ (40 : Int)) then decide ((↑(List.length C) : Int) ≤ (40 : Int)) else false then true else bif Nat.beq (Prod.fst (ati_g (planL L C e, planC L C e, L, C, e) (false, (1 : Int)))) (0 : Nat) then Prod.fst (Prod.snd (ati_g (planL L C e, planC L C e, L, C, e) (false, (1 : Int)))) else true))))) (.bad 116)) := by
  have hcap : capOk C := cap_of r0.2.1
  have hcb := capB_of hcap
  by_cases hs : L.length ≤ 40 ∧ C.length ≤ 40
  rotate_left
  · simp only [short_f hs, Bool.not_false, cond_true]
    exact ⟨fun _ => ⟨_, rfl⟩, fun h => by cases h⟩
  have h40 : decide (L.length ≤ 40) = true := decide_eq_true hs.1
  simp only [short_t hs, Bool.not_true, cond_false, h40, hcb, Bool.and_self, Bool.true_and]
  have z1 : Nat.beq 1 0 = false := rfl
  have z2 : Nat.beq 1 1 = true := rfl
  have other : ∀ P : List Bk, P = [] → ati_cond (P, planC L C e, L, C, e) (false, (1 : Int)) = true ∧ ati_g (P, planC L C e, L, C, e) (false, (1 : Int)) = (1, (false, (1 : Int))) := fun P h => by
    subst h
    exact loop0 rfl
  rcases plan_cases (e := e) hs.1 hcap with ⟨h1, h2, hw⟩ | ⟨h1, hl, hn, h2⟩ | ⟨h1, hk, h0, hp, h2⟩
  · obtain ⟨r1, r2⟩ := other _ h2
    simp only [r1, r2, z1, z2, cond_true, cond_false, Bool.true_and]
    exact ⟨fun _ => ⟨_, rfl⟩, fun h => by cases h⟩
  · obtain ⟨r1, r2⟩ := other _ h2
    simp only [r1, r2, z1, z2, cond_true, cond_false, Bool.true_and]
    exact ⟨fun _ => ⟨_, rfl⟩, fun h => by cases h⟩
  · obtain ⟨r1, r2⟩ := ati_run hk
    rw [h1, h2]
    simp only [r1, r2, z1, z2, cond_true, cond_false, Bool.true_and]
    exact ⟨fun _ => ⟨_, rfl⟩, fun h => by cases h⟩
set_option maxHeartbeats 4000000 in
theorem law_AheadTight (v0 : Value) (x0 : ((.prod (.list (.prod (.prod (.int .i64) (.prod (.int .i64) (.prod (.int .i64) (.int .i64)))) (.prod (.int .i64) (.prod (.int .i64) (.prod (.int .i64) (.int .i64)))))) (.prod (.list (.int .i64)) (.int .i64))) : Ty).den) (r0 : Ty.InR (.prod (.list (.prod (.prod (.int .i64) (.prod (.int .i64) (.prod (.int .i64) (.int .i64)))) (.prod (.int .i64) (.prod (.int .i64) (.prod (.int .i64) (.int .i64)))))) (.prod (.list (.int .i64)) (.int .i64))) x0) (z_w : World) (i0 : (AV.ag (Ty.cells false (.prod (.list (.prod (.prod (.int .i64) (.prod (.int .i64) (.prod (.int .i64) (.int .i64)))) (.prod (.int .i64) (.prod (.int .i64) (.prod (.int .i64) (.int .i64)))))) (.prod (.list (.int .i64)) (.int .i64))) x0)).is [] (fun _ => none) (fun b => b < z_w.heap.size) z_w v0) : Calls Try.prog 6 #[v0] z_w fun e w' => e = .returned (.bool true) ∧ Ext z_w w' := by
  obtain ⟨L, ⟨C, e⟩⟩ := x0
  refine law_of_tree (by kernel_rfl) (abF_S62_ok) (abG_L63_ok) (law_AheadTight_tree L C e) (law_AheadTight_all L C e r0 ) rfl z_w _ _ (fun _ h => h) ⟨_, _, rfl, i0, rfl⟩
end Go.Proofs.Ytaidlflnkdamkaa
