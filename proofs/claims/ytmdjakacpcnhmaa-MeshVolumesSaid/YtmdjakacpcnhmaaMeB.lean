/-
  Layer 7: MeshSames, MeshTurns.
-/
import Derived.Test.YtmdjakacpcnhmaaProg
import Derived.Test.YtmdjakacpcnhmaaFvX
import Derived.Test.YtmdjakacpcnhmaaFvZ
import Derived.Test.YtmdjakacpcnhmaaAut
import Derived.Test.YtmdjakacpcnhmaaRd
import Derived.Test.YtmdjakacpcnhmaaPl
import Derived.Test.YtmdjakacpcnhmaaSeA
import Derived.Test.YtmdjakacpcnhmaaSeB
import Derived.Test.YtmdjakacpcnhmaaSeC
import Derived.Test.YtmdjakacpcnhmaaSeD
import Derived.Test.YtmdjakacpcnhmaaSeE
import Derived.Test.YtmdjakacpcnhmaaMeW
import Derived.Test.YtmdjakacpcnhmaaMeA
namespace Go.Proofs.Ytmdjakacpcnhmaa
open Go
theorem lenOk {n : Nat} (h : n ≤ 4096) : decide ((n : Int) ≤ 9223372036854775806) = true := decide_eq_true (by omega)
theorem smE_refl (V T : List (Int × (Int × Int))) : smE V T V T = true := decide_eq_true ⟨rfl, rfl⟩
theorem smE_comm (V T W U : List (Int × (Int × Int))) : smE W U V T = smE V T W U := by
  unfold smE
  rw [Bool.eq_iff_iff]
  simp only [decide_eq_true_eq]
  exact ⟨fun h => ⟨h.1.symm, h.2.symm⟩, fun h => ⟨h.1.symm, h.2.symm⟩⟩
theorem rv_len (V T : List (Int × (Int × Int))) : (rvV V T).length ≤ V.length ∧ (rvL V T).length ≤ T.length := by
  unfold rvV rvL
  cases chk V T != 0
  · simp
  · simp
theorem small_of {V T : List (Int × (Int × Int))} (h : (bif decide ((V.length : Int) > 200) then true else decide ((T.length : Int) > 200)) = false) : V.length ≤ 200 ∧ T.length ≤ 200 := by
  by_cases h1 : (V.length : Int) > 200
  · rw [decide_eq_true h1] at h; cases h
  · rw [decide_eq_false h1] at h
    have := of_decide_eq_false (show decide ((T.length : Int) > 200) = false from h)
    omega
theorem map_rv (T : List (Int × (Int × Int))) : (T.map rvT).map rvT = T := by
  rw [List.map_map]
  have : rvT ∘ rvT = id := by funext t; rfl
  rw [this, List.map_id]
theorem rv_rv {V T : List (Int × (Int × Int))} (h : chk V T = 0) : rvV (rvV V T) (rvL V T) = V ∧ rvL (rvV V T) (rvL V T) = T := by
  have e1 : rvV V T = V := by unfold rvV; rw [h]; rfl
  have e2 : rvL V T = T.map rvT := by unfold rvL; rw [h]; rfl
  rw [e1, e2]
  unfold rvV rvL
  rw [chk_rev h]
  exact ⟨rfl, map_rv T⟩
set_option maxRecDepth 100000 in
theorem law_MeshSames_tree (V : (Ty.list (.prod (.int .i64) (.prod (.int .i64) (.int .i64)))).den) (T : (Ty.list (.prod (.int .i64) (.prod (.int .i64) (.int .i64)))).den) (W : (Ty.list (.prod (.int .i64) (.prod (.int .i64) (.int .i64)))).den) (U : (Ty.list (.prod (.int .i64) (.prod (.int .i64) (.int .i64)))).den) : evalF Try.prog meA_S58 (opens []) meA_L55 9 8 [.ag [.d false false (.prod (.int .i64) (.prod (.int .i64) (.int .i64))) V, .d false false (.prod (.int .i64) (.prod (.int .i64) (.int .i64))) T], .ag [.d false false (.prod (.int .i64) (.prod (.int .i64) (.int .i64))) W, .d false false (.prod (.int .i64) (.prod (.int .i64) (.int .i64))) U]] = .br ((bif bif decide ((↑(List.length V) : Int) > (200 : Int)) then true else decide ((↑(List.length T) : Int) > (200 : Int)) then (bif true then true else ((decide ((↑(List.length V) : Int) ≤ (9223372036854775806 : Int)) && decide ((↑(List.length T) : Int) ≤ (9223372036854775806 : Int))) && ((decide ((↑(List.length V) : Int) ≤ (9223372036854775806 : Int)) && decide ((↑(List.length T) : Int) ≤ (9223372036854775806 : Int))) && (bif smE V T W U == smE V T W U then ((decide ((↑(List.length W) : Int) ≤ (9223372036854775806 : Int)) && decide ((↑(List.length U) : Int) ≤ (9223372036854775806 : Int))) && ((decide ((↑(List.length V) : Int) ≤ (9223372036854775806 : Int)) && decide ((↑(List.length T) : Int) ≤ (9223372036854775806 : Int))) && (bif smE W U V T == smE V T W U then (decide ((↑(List.length V) : Int) ≤ (9223372036854775806 : Int)) && decide ((↑(List.length T) : Int) ≤ (9223372036854775806 : Int))) else true))) else (bif false then (decide ((↑(List.length V) : Int) ≤ (9223372036854775806 : Int)) && decide ((↑(List.length T) : Int) ≤ (9223372036854775806 : Int))) else true))))) else (bif bif decide ((↑(List.length W) : Int) > (200 : Int)) then true else decide ((↑(List.length U) : Int) > (200 : Int)) then true else ((decide ((↑(List.length V) : Int) ≤ (9223372036854775806 : Int)) && decide ((↑(List.length T) : Int) ≤ (9223372036854775806 : Int))) && ((decide ((↑(List.length V) : Int) ≤ (9223372036854775806 : Int)) && decide ((↑(List.length T) : Int) ≤ (9223372036854775806 : Int))) && (bif smE V T W U == smE V T W U then ((decide ((↑(List.length W) : Int) ≤ (9223372036854775806 : Int)) && decide ((↑(List.length U) : Int) ≤ (9223372036854775806 : Int))) && ((decide ((↑(List.length V) : Int) ≤ (9223372036854775806 : Int)) && decide ((↑(List.length T) : Int) ≤ (9223372036854775806 : Int))) && (bif smE W U V T == smE V T W U then (decide ((↑(List.length V) : Int) ≤ (9223372036854775806 : Int)) && decide ((↑(List.length T) : Int) ≤ (9223372036854775806 : Int))) else true))) else (bif false then (decide ((↑(List.length V) : Int) ≤ (9223372036854775806 : Int)) && decide ((↑(List.length T) : Int) ≤ (9223372036854775806 : Int))) else true))))))) (.ret (.one (.v false (.bool (bif bif decide ((↑(List.length V) : Int) > (200 : Int)) then true else decide ((↑(List.length T) : Int) > (200 : Int)) then true else bif bif decide ((↑(List.length W) : Int) > (200 : Int)) then true else decide ((↑(List.length U) : Int) > (200 : Int)) then true else bif smE V T W U == smE V T W U then bif smE W U V T == smE V T W U then bif smE V T V T then true else false else false else false))))) (.bad 116) := by kernel_rfl
set_option maxHeartbeats 4000000 in
theorem law_MeshSames_all (V : (Ty.list (.prod (.int .i64) (.prod (.int .i64) (.int .i64)))).den) (T : (Ty.list (.prod (.int .i64) (.prod (.int .i64) (.int .i64)))).den) (W : (Ty.list (.prod (.int .i64) (.prod (.int .i64) (.int .i64)))).den) (U : (Ty.list (.prod (.int .i64) (.prod (.int .i64) (.int .i64)))).den) (r0 : Ty.InR (.prod (.list (.prod (.int .i64) (.prod (.int .i64) (.int .i64)))) (.list (.prod (.int .i64) (.prod (.int .i64) (.int .i64))))) (V, T)) (r1 : Ty.InR (.prod (.list (.prod (.int .i64) (.prod (.int .i64) (.int .i64)))) (.list (.prod (.int .i64) (.prod (.int .i64) (.int .i64))))) (W, U))  : Tr.all (fun r => ∃ kn, r = AV.one (.v kn (.bool true))) (.br ((bif bif decide ((↑(List.length V) : Int) > (200 : Int)) then true else decide ((↑(List.length T) : Int) > (200 : Int)) then (bif true then true else ((decide ((↑(List.length V) : Int) ≤ (9223372036854775806 : Int)) && decide ((↑(List.length T) : Int) ≤ (9223372036854775806 : Int))) && ((decide ((↑(List.length V) : Int) ≤ (9223372036854775806 : Int)) && decide ((↑(List.length T) : Int) ≤ (9223372036854775806 : Int))) && (bif smE V T W U == smE V T W U then ((decide ((↑(List.length W) : Int) ≤ (9223372036854775806 : Int)) && decide ((↑(List.length U) : Int) ≤ (9223372036854775806 : Int))) && ((decide ((↑(List.length V) : Int) ≤ (9223372036854775806 : Int)) && decide ((↑(List.length T) : Int) ≤ (9223372036854775806 : Int))) && (bif smE W U V T == smE V T W U then (decide ((↑(List.length V) : Int) ≤ (9223372036854775806 : Int)) && decide ((↑(List.length T) : Int) ≤ (9223372036854775806 : Int))) else true))) else (bif false then (decide ((↑(List.length V) : Int) ≤ (9223372036854775806 : Int)) && decide ((↑(List.length T) : Int) ≤ (9223372036854775806 : Int))) else true))))) else (bif bif decide ((↑(List.length W) : Int) > (200 : Int)) then true else decide ((↑(List.length U) : Int) > (200 : Int)) then true else ((decide ((↑(List.length V) : Int) ≤ (9223372036854775806 : Int)) && decide ((↑(List.length T) : Int) ≤ (9223372036854775806 : Int))) && ((decide ((↑(List.length V) : Int) ≤ (9223372036854775806 : Int)) && decide ((↑(List.length T) : Int) ≤ (9223372036854775806 : Int))) && (bif smE V T W U == smE V T W U then ((decide ((↑(List.length W) : Int) ≤ (9223372036854775806 : Int)) && decide ((↑(List.length U) : Int) ≤ (9223372036854775806 : Int))) && ((decide ((↑(List.length V) : Int) ≤ (9223372036854775806 : Int)) && decide ((↑(List.length T) : Int) ≤ (9223372036854775806 : Int))) && (bif smE W U V T == smE V T W U then (decide ((↑(List.length V) : Int) ≤ (9223372036854775806 : Int)) && decide ((↑(List.length T) : Int) ≤ (9223372036854775806 : Int))) else true))) else (bif false then (decide ((↑(List.length V) : Int) ≤ (9223372036854775806 : Int)) && decide ((↑(List.length T) : Int) ≤ (9223372036854775806 : Int))) else true))))))) (.ret (.one (.v false (.bool (bif bif decide ((↑(List.length V) : Int) > (200 : Int)) then true else decide ((↑(List.length T) : Int) > (200 : Int)) then true else bif bif decide ((↑(List.length W) : Int) > (200 : Int)) then true else decide ((↑(List.length U) : Int) > (200 : Int)) then true else bif smE V T W U == smE V T W U then bif smE W U V T == smE V T W U then bif smE V T V T then true else false else false else false))))) (.bad 116)) := by
  show (_ = true → _) ∧ (_ = false → _)
  cases h1 : (bif decide ((V.length : Int) > (200 : Int)) then true else decide ((T.length : Int) > (200 : Int)))
  · cases h2 : (bif decide ((W.length : Int) > (200 : Int)) then true else decide ((U.length : Int) > (200 : Int)))
    · obtain ⟨a1, a2⟩ := small_of h1
      obtain ⟨b1, b2⟩ := small_of h2
      simp only [lenOk (show V.length ≤ 4096 by omega), lenOk (show T.length ≤ 4096 by omega), lenOk (show W.length ≤ 4096 by omega), lenOk (show U.length ≤ 4096 by omega), smE_comm V T W U, smE_refl, beq_self_eq_true, cond_true, cond_false, Bool.and_self]
      exact ⟨fun _ => ⟨false, rfl⟩, fun h => by cases h⟩
    · simp only [cond_true, cond_false]
      exact ⟨fun _ => ⟨false, rfl⟩, fun h => by cases h⟩
  · simp only [cond_true]
    exact ⟨fun _ => ⟨false, rfl⟩, fun h => by cases h⟩
set_option maxHeartbeats 4000000 in
theorem law_MeshSames (v0 : Value) (x0 : ((.prod (.list (.prod (.int .i64) (.prod (.int .i64) (.int .i64)))) (.list (.prod (.int .i64) (.prod (.int .i64) (.int .i64))))) : Ty).den) (r0 : Ty.InR (.prod (.list (.prod (.int .i64) (.prod (.int .i64) (.int .i64)))) (.list (.prod (.int .i64) (.prod (.int .i64) (.int .i64))))) x0) (v1 : Value) (x1 : ((.prod (.list (.prod (.int .i64) (.prod (.int .i64) (.int .i64)))) (.list (.prod (.int .i64) (.prod (.int .i64) (.int .i64))))) : Ty).den) (r1 : Ty.InR (.prod (.list (.prod (.int .i64) (.prod (.int .i64) (.int .i64)))) (.list (.prod (.int .i64) (.prod (.int .i64) (.int .i64))))) x1) (z_w : World) (i0 : (AV.ag (Ty.cells false (.prod (.list (.prod (.int .i64) (.prod (.int .i64) (.int .i64)))) (.list (.prod (.int .i64) (.prod (.int .i64) (.int .i64))))) x0)).is [] (fun _ => none) (fun b => b < z_w.heap.size) z_w v0) (i1 : (AV.ag (Ty.cells false (.prod (.list (.prod (.int .i64) (.prod (.int .i64) (.int .i64)))) (.list (.prod (.int .i64) (.prod (.int .i64) (.int .i64))))) x1)).is [] (fun _ => none) (fun b => b < z_w.heap.size) z_w v1) : Calls Try.prog 8 #[v0, v1] z_w fun e w' => e = .returned (.bool true) ∧ Ext z_w w' := by
  obtain ⟨V, T⟩ := x0
  obtain ⟨W, U⟩ := x1
  refine law_of_tree (by kernel_rfl) (meA_S58_ok) (meA_L55_ok) (law_MeshSames_tree V T W U) (law_MeshSames_all V T W U r0 r1 ) rfl z_w _ _ (fun _ h => h) ⟨_, _, rfl, i0, ⟨_, _, rfl, i1, rfl⟩⟩
set_option maxRecDepth 100000 in
theorem law_MeshTurns_tree (V : (Ty.list (.prod (.int .i64) (.prod (.int .i64) (.int .i64)))).den) (T : (Ty.list (.prod (.int .i64) (.prod (.int .i64) (.int .i64)))).den) : evalF Try.prog meA_S58 (opens []) meA_L55 9 6 [.ag [.d false false (.prod (.int .i64) (.prod (.int .i64) (.int .i64))) V, .d false false (.prod (.int .i64) (.prod (.int .i64) (.int .i64))) T]] = .br ((bif bif decide ((↑(List.length V) : Int) > (200 : Int)) then true else decide ((↑(List.length T) : Int) > (200 : Int)) then true else ((decide ((↑(List.length (rvV V T)) : Int) ≤ (9223372036854775806 : Int)) && decide ((↑(List.length (rvL V T)) : Int) ≤ (9223372036854775806 : Int))) && (bif !smE (rvV V T) (rvL V T) (rvV V T) (rvL V T) then true else (bif chk V T != (0 : Int) then true else (decide ((↑(List.length (rvV (rvV V T) (rvL V T))) : Int) ≤ (9223372036854775806 : Int)) && decide ((↑(List.length (rvL (rvV V T) (rvL V T))) : Int) ≤ (9223372036854775806 : Int)))))))) (.ret (.one (.v false (.bool (bif bif decide ((↑(List.length V) : Int) > (200 : Int)) then true else decide ((↑(List.length T) : Int) > (200 : Int)) then true else bif !smE (rvV V T) (rvL V T) (rvV V T) (rvL V T) then false else bif chk V T != (0 : Int) then true else bif smE (rvV (rvV V T) (rvL V T)) (rvL (rvV V T) (rvL V T)) V T then true else false))))) (.bad 116) := by kernel_rfl
set_option maxHeartbeats 4000000 in
theorem law_MeshTurns_all (V : (Ty.list (.prod (.int .i64) (.prod (.int .i64) (.int .i64)))).den) (T : (Ty.list (.prod (.int .i64) (.prod (.int .i64) (.int .i64)))).den) (r0 : Ty.InR (.prod (.list (.prod (.int .i64) (.prod (.int .i64) (.int .i64)))) (.list (.prod (.int .i64) (.prod (.int .i64) (.int .i64))))) (V, T))  : Tr.all (fun r => ∃ kn, r = AV.one (.v kn (.bool true))) (.br ((bif bif decide ((↑(List.length V) : Int) > (200 : Int)) then true else decide ((↑(List.length T) : Int) > (200 : Int)) then true else ((decide ((↑(List.length (rvV V T)) : Int) ≤ (9223372036854775806 : Int)) && decide ((↑(List.length (rvL V T)) : Int) ≤ (9223372036854775806 : Int))) && (bif !smE (rvV V T) (rvL V T) (rvV V T) (rvL V T) then true else (bif chk V T != (0 : Int) then true else (decide ((↑(List.length (rvV (rvV V T) (rvL V T))) : Int) ≤ (9223372036854775806 : Int)) && decide ((↑(List.length (rvL (rvV V T) (rvL V T))) : Int) ≤ (9223372036854775806 : Int)))))))) (.ret (.one (.v false (.bool (bif bif decide ((↑(List.length V) : Int) > (200 : Int)) then true else decide ((↑(List.length T) : Int) > (200 : Int)) then true else bif !smE (rvV V T) (rvL V T) (rvV V T) (rvL V T) then false else bif chk V T != (0 : Int) then true else bif smE (rvV (rvV V T) (rvL V T)) (rvL (rvV V T) (rvL V T)) V T then true else false))))) (.bad 116)) := by
  show (_ = true → _) ∧ (_ = false → _)
  cases h1 : (bif decide ((V.length : Int) > (200 : Int)) then true else decide ((T.length : Int) > (200 : Int)))
  · obtain ⟨a1, a2⟩ := small_of h1
    have l1 := rv_len V T
    simp only [lenOk (show (rvV V T).length ≤ 4096 by omega), lenOk (show (rvL V T).length ≤ 4096 by omega), smE_refl, cond_true, cond_false, Bool.not_true, Bool.and_self, Bool.true_and]
    by_cases h : chk V T = 0
    · obtain ⟨e1, e2⟩ := rv_rv h
      simp only [h, e1, e2, lenOk (show V.length ≤ 4096 by omega), lenOk (show T.length ≤ 4096 by omega), smE_refl, bne_self_eq_false, cond_false, cond_true, Bool.and_self]
      exact ⟨fun _ => ⟨false, rfl⟩, fun h => by cases h⟩
    · simp only [bne0 h, cond_true]
      exact ⟨fun _ => ⟨false, rfl⟩, fun h => by cases h⟩
  · simp only [cond_true]
    exact ⟨fun _ => ⟨false, rfl⟩, fun h => by cases h⟩
set_option maxHeartbeats 4000000 in
theorem law_MeshTurns (v0 : Value) (x0 : ((.prod (.list (.prod (.int .i64) (.prod (.int .i64) (.int .i64)))) (.list (.prod (.int .i64) (.prod (.int .i64) (.int .i64))))) : Ty).den) (r0 : Ty.InR (.prod (.list (.prod (.int .i64) (.prod (.int .i64) (.int .i64)))) (.list (.prod (.int .i64) (.prod (.int .i64) (.int .i64))))) x0) (z_w : World) (i0 : (AV.ag (Ty.cells false (.prod (.list (.prod (.int .i64) (.prod (.int .i64) (.int .i64)))) (.list (.prod (.int .i64) (.prod (.int .i64) (.int .i64))))) x0)).is [] (fun _ => none) (fun b => b < z_w.heap.size) z_w v0) : Calls Try.prog 6 #[v0] z_w fun e w' => e = .returned (.bool true) ∧ Ext z_w w' := by
  obtain ⟨V, T⟩ := x0
  refine law_of_tree (by kernel_rfl) (meA_S58_ok) (meA_L55_ok) (law_MeshTurns_tree V T) (law_MeshTurns_all V T r0 ) rfl z_w _ _ (fun _ h => h) ⟨_, _, rfl, i0, rfl⟩
end Go.Proofs.Ytmdjakacpcnhmaa
