/-
  Layer 51: FlashNews, FlashReads, FlashWrites, FlashFails.
-/
import Derived.Test.YtabjagbdaamaaaaProg
import Derived.Test.YtabjagbdaamaaaaFvX
import Derived.Test.YtabjagbdaamaaaaFvZ
import Derived.Test.YtabjagbdaamaaaaAut
import Derived.Test.YtabjagbdaamaaaaRd
import Derived.Test.YtabjagbdaamaaaaPl
import Derived.Test.YtabjagbdaamaaaaScn
import Derived.Test.YtabjagbdaamaaaaFsA
import Derived.Test.YtabjagbdaamaaaaFld
import Derived.Test.YtabjagbdaamaaaaRpl
import Derived.Test.YtabjagbdaamaaaaFsB
import Derived.Test.YtabjagbdaamaaaaFsC
import Derived.Test.YtabjagbdaamaaaaFsD
namespace Go.Proofs.Ytabjagbdaamaaaa
open Go
theorem fsm_refl (P : List ByteArray) (fu : Int) (de : Bool) (ke : Int) : fsm P fu de ke P fu de ke = true := by
  unfold fsm
  exact @decide_eq_true _ (Classical.propDecidable _) ⟨rfl, rfl, rfl, rfl⟩
theorem hvy_len {P : List ByteArray} {D : ByteArray} (h : hvy P D = false) : P.length ≤ 259 ∧ D.size ≤ 1000 := by
  unfold hvy at h
  simp at h
  omega
theorem len4 {n : Nat} (h : n ≤ 259) : decide (n ≤ 4096) = true := decide_eq_true (by omega)
theorem wr_len (P : List ByteArray) (fu : Int) (de : Bool) (ke I : Int) (D : ByteArray) : (wrP P fu de ke I D).length = P.length := by
  unfold wrP
  cases wod P fu ke I D <;> cases de <;> cases fu == 1 <;> simp
theorem nw_valid (n : Int) : fvl (nwP n) 0 0 = nwO n := by
  unfold nwP
  cases h : nwO n
  · rfl
  · have h2 := of_decide_eq_true (show decide (2 ≤ n ∧ n ≤ 256) = true from h)
    have hz : p64 zpS = true := by decide
    unfold fvl
    simp [hz]
    omega
set_option maxRecDepth 100000 in
theorem law_FlashNews_tree (n : Int) : evalF Try.prog fsD_S52 (opens []) fsB_L54 9 3 [.one (.v false (.int .i64 n))] = .br ((bif nwE n == nwE n then ((decide ((↑(List.length (nwP n)) : Int) ≤ (9223372036854775806 : Int))) && (bif fsm (nwP n) (0 : Int) false (0 : Int) (nwP n) (0 : Int) false (0 : Int) then (decide ((↑(List.length (nwP n)) : Int) ≤ (9223372036854775806 : Int))) else true)) else (bif false then (decide ((↑(List.length (nwP n)) : Int) ≤ (9223372036854775806 : Int))) else true))) (.ret (.one (.v false (.bool (bif nwE n == nwE n then bif fsm (nwP n) (0 : Int) false (0 : Int) (nwP n) (0 : Int) false (0 : Int) then bif fvl (nwP n) (0 : Int) (0 : Int) == (nwE n == (0 : Int)) then true else false else false else false))))) (.bad 116) := by kernel_rfl
set_option maxHeartbeats 4000000 in
theorem law_FlashNews_all (n : Int)  (l0 : -9223372036854775808 ≤ n) (g0 : n ≤ 9223372036854775807) : Tr.all (fun r => ∃ kn, r = AV.one (.v kn (.bool true))) (.br ((bif nwE n == nwE n then ((decide ((↑(List.length (nwP n)) : Int) ≤ (9223372036854775806 : Int))) && (bif fsm (nwP n) (0 : Int) false (0 : Int) (nwP n) (0 : Int) false (0 : Int) then (decide ((↑(List.length (nwP n)) : Int) ≤ (9223372036854775806 : Int))) else true)) else (bif false then (decide ((↑(List.length (nwP n)) : Int) ≤ (9223372036854775806 : Int))) else true))) (.ret (.one (.v false (.bool (bif nwE n == nwE n then bif fsm (nwP n) (0 : Int) false (0 : Int) (nwP n) (0 : Int) false (0 : Int) then bif fvl (nwP n) (0 : Int) (0 : Int) == (nwE n == (0 : Int)) then true else false else false else false))))) (.bad 116)) := by
  have hl : (nwP n).length ≤ 256 := by
    unfold nwP
    cases h : nwO n
    · simp
    · have h2 := of_decide_eq_true (show decide (2 ≤ n ∧ n ≤ 256) = true from h)
      simp; omega
  have l2 := lenI (n := List.length (nwP n)) (by omega)
  have e : (nwE n == (0 : Int)) = nwO n := by
    unfold nwE
    cases nwO n <;> rfl
  simp only [beq_self_eq_true, l2, fsm_refl, nw_valid, e, cond_true, Bool.and_self]
  exact ⟨fun _ => ⟨_, rfl⟩, fun h => by cases h⟩
set_option maxHeartbeats 4000000 in
theorem law_FlashNews (n : Int) (l0 : -9223372036854775808 ≤ n) (g0 : n ≤ 9223372036854775807) (z_w : World)  : Calls Try.prog 3 #[.int .i64 n] z_w fun e w' => e = .returned (.bool true) ∧ Ext z_w w' := by
  refine law_of_tree (by kernel_rfl) (fsD_S52_ok) (fsB_L54_ok) (law_FlashNews_tree n) (law_FlashNews_all n  l0 g0) rfl z_w _ _ (fun _ h => h) ⟨_, _, rfl, rfl, rfl⟩
set_option maxRecDepth 100000 in
theorem law_FlashReads_tree (P : (Ty.list .str).den) (fu : Int) (de : Bool) (ke : Int) (I : Int) (D : ByteArray) (N : Int) (kk : Int) : evalF Try.prog fsD_S52 (opens []) fsB_L54 9 4 [.ag [.d false false .str P, .v false (.int .i64 fu), .v false (.bool de), .v false (.int .i64 ke), .v false (.int .i64 I), .v false (.string D), .v false (.int .i64 N), .v false (.int .i64 kk)]] = .br ((bif hvy P D then true else ((decide (List.length P ≤ (4096 : Nat))) && ((decide (List.length P ≤ (4096 : Nat))) && ((decide ((↑(List.length P) : Int) ≤ (9223372036854775806 : Int))) && (decide ((↑(List.length P) : Int) ≤ (9223372036854775806 : Int)))))))) (.ret (.one (.v false (.bool (bif hvy P D then true else bif bif bif fvl P fu ke == fvl P fu ke then ByteArray.toList (rdS P fu de ke I) == ByteArray.toList (rdS P fu de ke I) else false then rdE P fu de ke I == rdE P fu de ke I else false then true else false))))) (.bad 116) := by kernel_rfl
set_option maxHeartbeats 4000000 in
theorem law_FlashReads_all (P : (Ty.list .str).den) (fu : Int) (de : Bool) (ke : Int) (I : Int) (D : ByteArray) (N : Int) (kk : Int) (r0 : Ty.InR (.prod (.prod (.list .str) (.prod (.int .i64) (.prod .bool (.int .i64)))) (.prod (.int .i64) (.prod .str (.prod (.int .i64) (.int .i64))))) ((P, (fu, (de, ke))), (I, (D, (N, kk)))))  : Tr.all (fun r => ∃ kn, r = AV.one (.v kn (.bool true))) (.br ((bif hvy P D then true else ((decide (List.length P ≤ (4096 : Nat))) && ((decide (List.length P ≤ (4096 : Nat))) && ((decide ((↑(List.length P) : Int) ≤ (9223372036854775806 : Int))) && (decide ((↑(List.length P) : Int) ≤ (9223372036854775806 : Int)))))))) (.ret (.one (.v false (.bool (bif hvy P D then true else bif bif bif fvl P fu ke == fvl P fu ke then ByteArray.toList (rdS P fu de ke I) == ByteArray.toList (rdS P fu de ke I) else false then rdE P fu de ke I == rdE P fu de ke I else false then true else false))))) (.bad 116)) := by
  cases hv : hvy P D
  · obtain ⟨h1, h2⟩ := hvy_len hv
    have l1 := len4 h1
    have l2 := lenI (n := List.length P) (by omega)
    simp only [l1, l2, beq_self_eq_true, Bool.and_self, cond_true, cond_false]
    exact ⟨fun _ => ⟨_, rfl⟩, fun h => by cases h⟩
  · simp only [cond_true]
    exact ⟨fun _ => ⟨_, rfl⟩, fun h => by cases h⟩
set_option maxHeartbeats 4000000 in
theorem law_FlashReads (v0 : Value) (x0 : ((.prod (.prod (.list .str) (.prod (.int .i64) (.prod .bool (.int .i64)))) (.prod (.int .i64) (.prod .str (.prod (.int .i64) (.int .i64))))) : Ty).den) (r0 : Ty.InR (.prod (.prod (.list .str) (.prod (.int .i64) (.prod .bool (.int .i64)))) (.prod (.int .i64) (.prod .str (.prod (.int .i64) (.int .i64))))) x0) (z_w : World) (i0 : (AV.ag (Ty.cells false (.prod (.prod (.list .str) (.prod (.int .i64) (.prod .bool (.int .i64)))) (.prod (.int .i64) (.prod .str (.prod (.int .i64) (.int .i64))))) x0)).is [] (fun _ => none) (fun b => b < z_w.heap.size) z_w v0) : Calls Try.prog 4 #[v0] z_w fun e w' => e = .returned (.bool true) ∧ Ext z_w w' := by
  obtain ⟨⟨P, ⟨fu, ⟨de, ke⟩⟩⟩, ⟨I, ⟨D, ⟨N, kk⟩⟩⟩⟩ := x0
  refine law_of_tree (by kernel_rfl) (fsD_S52_ok) (fsB_L54_ok) (law_FlashReads_tree P fu de ke I D N kk) (law_FlashReads_all P fu de ke I D N kk r0 ) rfl z_w _ _ (fun _ h => h) ⟨_, _, rfl, i0, rfl⟩
set_option maxRecDepth 100000 in
theorem law_FlashWrites_tree (P : (Ty.list .str).den) (fu : Int) (de : Bool) (ke : Int) (I : Int) (D : ByteArray) (N : Int) (kk : Int) : evalF Try.prog fsD_S52 (opens []) fsB_L54 9 5 [.ag [.d false false .str P, .v false (.int .i64 fu), .v false (.bool de), .v false (.int .i64 ke), .v false (.int .i64 I), .v false (.string D), .v false (.int .i64 N), .v false (.int .i64 kk)]] = .br ((bif hvy P D then true else ((decide (List.length P ≤ (4096 : Nat))) && ((decide (List.length P ≤ (4096 : Nat))) && (bif wrE P fu de ke I D == wrE P fu de ke I D then (decide ((↑(List.length (wrP P fu de ke I D)) : Int) ≤ (9223372036854775806 : Int))) else true))))) (.ret (.one (.v false (.bool (bif hvy P D then true else bif wrE P fu de ke I D == wrE P fu de ke I D then bif fsm (wrP P fu de ke I D) (wrF P fu de ke I D) (wrD P fu de ke I D) (wrK P fu de ke I D) (wrP P fu de ke I D) (wrF P fu de ke I D) (wrD P fu de ke I D) (wrK P fu de ke I D) then true else false else false))))) (.bad 116) := by kernel_rfl
set_option maxHeartbeats 4000000 in
theorem law_FlashWrites_all (P : (Ty.list .str).den) (fu : Int) (de : Bool) (ke : Int) (I : Int) (D : ByteArray) (N : Int) (kk : Int) (r0 : Ty.InR (.prod (.prod (.list .str) (.prod (.int .i64) (.prod .bool (.int .i64)))) (.prod (.int .i64) (.prod .str (.prod (.int .i64) (.int .i64))))) ((P, (fu, (de, ke))), (I, (D, (N, kk)))))  : Tr.all (fun r => ∃ kn, r = AV.one (.v kn (.bool true))) (.br ((bif hvy P D then true else ((decide (List.length P ≤ (4096 : Nat))) && ((decide (List.length P ≤ (4096 : Nat))) && (bif wrE P fu de ke I D == wrE P fu de ke I D then (decide ((↑(List.length (wrP P fu de ke I D)) : Int) ≤ (9223372036854775806 : Int))) else true))))) (.ret (.one (.v false (.bool (bif hvy P D then true else bif wrE P fu de ke I D == wrE P fu de ke I D then bif fsm (wrP P fu de ke I D) (wrF P fu de ke I D) (wrD P fu de ke I D) (wrK P fu de ke I D) (wrP P fu de ke I D) (wrF P fu de ke I D) (wrD P fu de ke I D) (wrK P fu de ke I D) then true else false else false))))) (.bad 116)) := by
  cases hv : hvy P D
  · obtain ⟨h1, h2⟩ := hvy_len hv
    have l1 := len4 h1
    have l2 := lenI (n := List.length P) (by omega)
    have l3 := lenI (n := List.length (wrP P fu de ke I D)) (by rw [wr_len]; omega)
    simp only [l1, l2, l3, beq_self_eq_true, fsm_refl, Bool.and_self, cond_true, cond_false]
    exact ⟨fun _ => ⟨_, rfl⟩, fun h => by cases h⟩
  · simp only [cond_true]
    exact ⟨fun _ => ⟨_, rfl⟩, fun h => by cases h⟩
set_option maxHeartbeats 4000000 in
theorem law_FlashWrites (v0 : Value) (x0 : ((.prod (.prod (.list .str) (.prod (.int .i64) (.prod .bool (.int .i64)))) (.prod (.int .i64) (.prod .str (.prod (.int .i64) (.int .i64))))) : Ty).den) (r0 : Ty.InR (.prod (.prod (.list .str) (.prod (.int .i64) (.prod .bool (.int .i64)))) (.prod (.int .i64) (.prod .str (.prod (.int .i64) (.int .i64))))) x0) (z_w : World) (i0 : (AV.ag (Ty.cells false (.prod (.prod (.list .str) (.prod (.int .i64) (.prod .bool (.int .i64)))) (.prod (.int .i64) (.prod .str (.prod (.int .i64) (.int .i64))))) x0)).is [] (fun _ => none) (fun b => b < z_w.heap.size) z_w v0) : Calls Try.prog 5 #[v0] z_w fun e w' => e = .returned (.bool true) ∧ Ext z_w w' := by
  obtain ⟨⟨P, ⟨fu, ⟨de, ke⟩⟩⟩, ⟨I, ⟨D, ⟨N, kk⟩⟩⟩⟩ := x0
  refine law_of_tree (by kernel_rfl) (fsD_S52_ok) (fsB_L54_ok) (law_FlashWrites_tree P fu de ke I D N kk) (law_FlashWrites_all P fu de ke I D N kk r0 ) rfl z_w _ _ (fun _ h => h) ⟨_, _, rfl, i0, rfl⟩
theorem fl_valid (P : List ByteArray) (fu : Int) (de : Bool) (ke n k : Int) : fvl P (flF P fu de ke n) (flK P fu de ke n k) = fvl P fu ke := by
  have hb : ∀ a b, fvl P a b = (P.all p64 && decide (2 ≤ P.length ∧ P.length ≤ 256 ∧ 0 ≤ a ∧ a ≤ 1048576 ∧ 0 ≤ b ∧ b ≤ 64)) := fun _ _ => rfl
  unfold flF flK
  cases hf : fvl P fu ke
  · exact hf
  · cases de
    · rw [hb, Bool.and_eq_true, decide_eq_true_eq] at hf
      rw [hb, hf.1]
      simp only [Bool.not_true, cond_false, Bool.true_and]
      by_cases hn : n < 1
      · rw [decide_eq_true hn]
        simp only [cond_true]
        exact decide_eq_true ⟨hf.2.1, hf.2.2.1, by omega, by omega, by omega, by omega⟩
      · rw [decide_eq_false hn]
        simp only [cond_false]
        exact decide_eq_true ⟨hf.2.1, hf.2.2.1, by omega, by omega, by omega, by omega⟩
    · exact hf
theorem pw_valid (P : List ByteArray) (fu ke : Int) : fvl P (pwF P fu ke) (pwK P fu ke) = fvl P fu ke := by
  have hb : ∀ a b, fvl P a b = (P.all p64 && decide (2 ≤ P.length ∧ P.length ≤ 256 ∧ 0 ≤ a ∧ a ≤ 1048576 ∧ 0 ≤ b ∧ b ≤ 64)) := fun _ _ => rfl
  unfold pwF pwK
  cases hf : fvl P fu ke
  · exact hf
  · rw [hb, Bool.and_eq_true, decide_eq_true_eq] at hf
    simp only [cond_true]
    rw [hb, hf.1]
    exact decide_eq_true ⟨hf.2.1, hf.2.2.1, by omega, by omega, by omega, by omega⟩
theorem pw_dead (P : List ByteArray) (fu : Int) (de : Bool) (ke : Int) : (bif !fvl P fu ke then true else !pwD P fu de ke) = true := by
  unfold pwD
  cases fvl P fu ke <;> rfl
set_option maxRecDepth 100000 in
theorem law_FlashFails_tree (P : (Ty.list .str).den) (fu : Int) (de : Bool) (ke : Int) (I : Int) (D : ByteArray) (N : Int) (kk : Int) : evalF Try.prog fsD_S52 (opens []) fsB_L54 9 6 [.ag [.d false false .str P, .v false (.int .i64 fu), .v false (.bool de), .v false (.int .i64 ke), .v false (.int .i64 I), .v false (.string D), .v false (.int .i64 N), .v false (.int .i64 kk)]] = .br ((bif hvy P D then true else ((decide (List.length P ≤ (4096 : Nat))) && ((decide (List.length P ≤ (4096 : Nat))) && ((decide (List.length P ≤ (4096 : Nat))) && ((decide ((↑(List.length P) : Int) ≤ (9223372036854775806 : Int))) && (bif !fsm P (flF P fu de ke N) (flD P fu de ke N) (flK P fu de ke N kk) P (flF P fu de ke N) (flD P fu de ke N) (flK P fu de ke N kk) then (bif true then true else ((decide ((↑(List.length P) : Int) ≤ (9223372036854775806 : Int))) && ((decide ((↑(List.length P) : Int) ≤ (9223372036854775806 : Int))) && (bif fvl P (flF P fu de ke N) (flK P fu de ke N kk) == fvl P fu ke then (decide ((↑(List.length P) : Int) ≤ (9223372036854775806 : Int))) else true)))) else ((decide (List.length P ≤ (4096 : Nat))) && ((decide ((↑(List.length P) : Int) ≤ (9223372036854775806 : Int))) && (bif !fsm P (pwF P fu ke) (pwD P fu de ke) (pwK P fu ke) P (pwF P fu ke) (pwD P fu de ke) (pwK P fu ke) then true else ((decide ((↑(List.length P) : Int) ≤ (9223372036854775806 : Int))) && ((decide ((↑(List.length P) : Int) ≤ (9223372036854775806 : Int))) && (bif fvl P (flF P fu de ke N) (flK P fu de ke N kk) == fvl P fu ke then (decide ((↑(List.length P) : Int) ≤ (9223372036854775806 : Int))) else true))))))))))))) (.ret (.one (.v false (.bool (bif hvy P D then true else bif !fsm P (flF P fu de ke N) (flD P fu de ke N) (flK P fu de ke N kk) P (flF P fu de ke N) (flD P fu de ke N) (flK P fu de ke N kk) then false else bif !fsm P (pwF P fu ke) (pwD P fu de ke) (pwK P fu ke) P (pwF P fu ke) (pwD P fu de ke) (pwK P fu ke) then false else bif fvl P (flF P fu de ke N) (flK P fu de ke N kk) == fvl P fu ke then bif bif fvl P (pwF P fu ke) (pwK P fu ke) == fvl P fu ke then bif !fvl P fu ke then true else !pwD P fu de ke else false then true else false else false))))) (.bad 116) := by kernel_rfl
set_option maxHeartbeats 4000000 in
theorem law_FlashFails_all (P : (Ty.list .str).den) (fu : Int) (de : Bool) (ke : Int) (I : Int) (D : ByteArray) (N : Int) (kk : Int) (r0 : Ty.InR (.prod (.prod (.list .str) (.prod (.int .i64) (.prod .bool (.int .i64)))) (.prod (.int .i64) (.prod .str (.prod (.int .i64) (.int .i64))))) ((P, (fu, (de, ke))), (I, (D, (N, kk)))))  : Tr.all (fun r => ∃ kn, r = AV.one (.v kn (.bool true))) (.br ((bif hvy P D then true else ((decide (List.length P ≤ (4096 : Nat))) && ((decide (List.length P ≤ (4096 : Nat))) && ((decide (List.length P ≤ (4096 : Nat))) && ((decide ((↑(List.length P) : Int) ≤ (9223372036854775806 : Int))) && (bif !fsm P (flF P fu de ke N) (flD P fu de ke N) (flK P fu de ke N kk) P (flF P fu de ke N) (flD P fu de ke N) (flK P fu de ke N kk) then (bif true then true else ((decide ((↑(List.length P) : Int) ≤ (9223372036854775806 : Int))) && ((decide ((↑(List.length P) : Int) ≤ (9223372036854775806 : Int))) && (bif fvl P (flF P fu de ke N) (flK P fu de ke N kk) == fvl P fu ke then (decide ((↑(List.length P) : Int) ≤ (9223372036854775806 : Int))) else true)))) else ((decide (List.length P ≤ (4096 : Nat))) && ((decide ((↑(List.length P) : Int) ≤ (9223372036854775806 : Int))) && (bif !fsm P (pwF P fu ke) (pwD P fu de ke) (pwK P fu ke) P (pwF P fu ke) (pwD P fu de ke) (pwK P fu ke) then true else ((decide ((↑(List.length P) : Int) ≤ (9223372036854775806 : Int))) && ((decide ((↑(List.length P) : Int) ≤ (9223372036854775806 : Int))) && (bif fvl P (flF P fu de ke N) (flK P fu de ke N kk) == fvl P fu ke then (decide ((↑(List.length P) : Int) ≤ (9223372036854775806 : Int))) else true))))))))))))) (.ret (.one (.v false (.bool (bif hvy P D then true else bif !fsm P (flF P fu de ke N) (flD P fu de ke N) (flK P fu de ke N kk) P (flF P fu de ke N) (flD P fu de ke N) (flK P fu de ke N kk) then false else bif !fsm P (pwF P fu ke) (pwD P fu de ke) (pwK P fu ke) P (pwF P fu ke) (pwD P fu de ke) (pwK P fu ke) then false else bif fvl P (flF P fu de ke N) (flK P fu de ke N kk) == fvl P fu ke then bif bif fvl P (pwF P fu ke) (pwK P fu ke) == fvl P fu ke then bif !fvl P fu ke then true else !pwD P fu de ke else false then true else false else false))))) (.bad 116)) := by
  cases hv : hvy P D
  · obtain ⟨h1, h2⟩ := hvy_len hv
    have l1 := len4 h1
    have l2 := lenI (n := List.length P) (by omega)
    simp only [l1, l2, fl_valid, pw_valid, pw_dead, beq_self_eq_true, fsm_refl, Bool.not_true, Bool.and_self, cond_true, cond_false]
    exact ⟨fun _ => ⟨_, rfl⟩, fun h => by cases h⟩
  · simp only [cond_true]
    exact ⟨fun _ => ⟨_, rfl⟩, fun h => by cases h⟩
set_option maxHeartbeats 4000000 in
theorem law_FlashFails (v0 : Value) (x0 : ((.prod (.prod (.list .str) (.prod (.int .i64) (.prod .bool (.int .i64)))) (.prod (.int .i64) (.prod .str (.prod (.int .i64) (.int .i64))))) : Ty).den) (r0 : Ty.InR (.prod (.prod (.list .str) (.prod (.int .i64) (.prod .bool (.int .i64)))) (.prod (.int .i64) (.prod .str (.prod (.int .i64) (.int .i64))))) x0) (z_w : World) (i0 : (AV.ag (Ty.cells false (.prod (.prod (.list .str) (.prod (.int .i64) (.prod .bool (.int .i64)))) (.prod (.int .i64) (.prod .str (.prod (.int .i64) (.int .i64))))) x0)).is [] (fun _ => none) (fun b => b < z_w.heap.size) z_w v0) : Calls Try.prog 6 #[v0] z_w fun e w' => e = .returned (.bool true) ∧ Ext z_w w' := by
  obtain ⟨⟨P, ⟨fu, ⟨de, ke⟩⟩⟩, ⟨I, ⟨D, ⟨N, kk⟩⟩⟩⟩ := x0
  refine law_of_tree (by kernel_rfl) (fsD_S52_ok) (fsB_L54_ok) (law_FlashFails_tree P fu de ke I D N kk) (law_FlashFails_all P fu de ke I D N kk r0 ) rfl z_w _ _ (fun _ h => h) ⟨_, _, rfl, i0, rfl⟩
end Go.Proofs.Ytabjagbdaamaaaa
