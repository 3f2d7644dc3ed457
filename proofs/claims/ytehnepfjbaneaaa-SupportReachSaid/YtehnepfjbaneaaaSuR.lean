/-
  Layer 31: SupportReach.
-/
import Derived.Test.YtehnepfjbaneaaaProg
import Derived.Test.YtehnepfjbaneaaaFvX
import Derived.Test.YtehnepfjbaneaaaFvZ
import Derived.Test.YtehnepfjbaneaaaAut
import Derived.Test.YtehnepfjbaneaaaRd
import Derived.Test.YtehnepfjbaneaaaPl
import Derived.Test.YtehnepfjbaneaaaScn
import Derived.Test.YtehnepfjbaneaaaRegM
import Derived.Test.YtehnepfjbaneaaaMor
import Derived.Test.YtehnepfjbaneaaaRgA
import Derived.Test.YtehnepfjbaneaaaRgB
import Derived.Test.YtehnepfjbaneaaaRgC
import Derived.Test.YtehnepfjbaneaaaRgD
import Derived.Test.YtehnepfjbaneaaaMoB
import Derived.Test.YtehnepfjbaneaaaMoD
import Derived.Test.YtehnepfjbaneaaaSuA
import Derived.Test.YtehnepfjbaneaaaSuW
namespace Go.Proofs.Ytehnepfjbaneaaa
open Go
noncomputable def suR_S51 : Sums := addS 7 gTrue suA_S57
theorem suR_S51_ok : SumOK Try.prog suR_S51 := addS_ok (gTrue_ok (by kernel_rfl) (suW_S69_ok) (L0_ok _) aw7_tree) (suA_S57_ok)
abbrev sr_U : Type := (Ty.list (.list (.prod (.int .i64) (.list (.prod (.int .i64) (.int .i64)))))).den × (Ty.list (.list (.prod (.int .i64) (.list (.prod (.int .i64) (.int .i64)))))).den × (Ty.list (.list (.prod (.int .i64) (.list (.prod (.int .i64) (.int .i64)))))).den
abbrev sr_V : Type := Bool × Int
noncomputable def sr_St (u : sr_U) (v : sr_V) : Stt := ⟨[.one (.d false false (.list (.prod (.int .i64) (.list (.prod (.int .i64) (.int .i64))))) u.1), .one .junk, .one .junk, .one .junk, .one .junk, .one .junk, .one (.v false (.bool v.1)), .one (.d false false (.list (.prod (.int .i64) (.list (.prod (.int .i64) (.int .i64))))) u.2.1), .one .junk, .one (.d false false (.list (.prod (.int .i64) (.list (.prod (.int .i64) (.int .i64))))) u.2.2), .one .junk, .one (.v false (.int .i64 v.2)), .one .junk, .one .junk, .one .junk, .one .junk, .one .junk, .one .junk, .one .junk, .one .junk, .one .junk, .one .junk, .one .junk, .one .junk, .one .junk, .one .junk, .one .junk, .one .junk, .one .junk, .one .junk, .one .junk, .one .junk, .one .junk, .one .junk, .one .junk, .one .junk, .one .junk, .one .junk, .one .junk, .one .junk, .one .junk, .one .junk, .one .junk, .one .junk, .one .junk, .one .junk, .one .junk, .one .junk, .one .junk, .one .junk, .one .junk, .one .junk, .one .junk, .one .junk, .one .junk, .one .junk, .one .junk, .one .junk, .one .junk, .one .junk, .one .junk, .one .junk, .one .junk, .one .junk, .one .junk, .one .junk, .one .junk, .one .junk, .one .junk, .one .junk, .one .junk, .one .junk, .one .junk, .one .junk, .one .junk, .one .junk], [], 1051⟩
noncomputable def sr_step (u : sr_U) (v : sr_V) : Tr (sr_V ⊕ (Nat × sr_V)) :=
  match u, v with
  | (q0, q2, q3), (q1, q4) => .br (decide (q4 < (↑(List.length q0) : Int))) (.br (decide ((0 : Int) ≤ q4) && decide (q4 < (↑(List.length q3) : Int))) (.br (decide ((0 : Int) ≤ q4) && decide (q4 < (↑(List.length q2) : Int))) (.br (szG (el_lilii q3 q4) && szG (el_lilii q2 q4)) (.br (!withinG (el_lilii q3 q4) (el_lilii q2 q4)) (.ret (.inr (0, (false, q4)))) (.ret (.inl (q1, IntKind.wrap IntKind.i64 (q4 + (1 : Int)))))) (.bad 900)) (.bad 29)) (.bad 29)) (.ret (.inr (1, (q1, q4))))
set_option maxRecDepth 100000 in
set_option maxHeartbeats 4000000 in
theorem sr_step_eq : ∀ (u : sr_U) (v : sr_V), (evalC Try.prog (evalB Try.prog suR_S51 (opens []) suA_L55 7).1 (evalB Try.prog suR_S51 (opens []) suA_L55 7).2 (opens []) (suA_L55 5) 100000 (0 :: [0, 1, 0, 1, 1, 1, 1, 1, 1]) (loopOf (bodyOf Try.prog 5) [1, 1, 1, 1, 1, 1, 0, 1, 0]) (sr_St u v) []).bind (finF [1, 2, 3, 4, 5, 8, 10, 12, 13, 14, 15, 16, 17, 18, 19, 20, 21, 22, 23, 24, 25, 26, 27, 28, 29, 30, 31, 32, 33, 34, 35, 36, 37, 38, 39, 40, 41, 42, 43, 44, 45, 46, 47, 48, 49, 50, 51, 52, 53, 54, 55, 56, 57, 58, 59, 60, 61, 62, 63, 64, 65, 66, 67, 68, 69, 70, 71, 72, 73, 74, 75] [] [] [] 1051) = (sr_step u v).bind (outA (sr_St u) [.ret, .exit 0]) := by
  rintro ⟨q0, q2, q3⟩ ⟨q1, q4⟩
  kernel_rfl
noncomputable def sr_rd (b : Bool) (o0 : Option AV) (o6 : Option AV) (o7 : Option AV) (o9 : Option AV) (o11 : Option AV) (own : Own) : Option (sr_U × sr_V) := zrT b <| zrO o0 fun za1 => zrA1 za1 fun zc2 => zrD (.list (.prod (.int .i64) (.list (.prod (.int .i64) (.int .i64))))) zc2 fun q0 => zrO o6 fun za3 => zrA1 za3 fun zc4 => zrB zc4 fun q1 => zrO o7 fun za5 => zrA1 za5 fun zc6 => zrD (.list (.prod (.int .i64) (.list (.prod (.int .i64) (.int .i64))))) zc6 fun q2 => zrO o9 fun za7 => zrA1 za7 fun zc8 => zrD (.list (.prod (.int .i64) (.list (.prod (.int .i64) (.int .i64))))) zc8 fun q3 => zrO o11 fun za9 => zrA1 za9 fun zc10 => zrI .i64 zc10 fun q4 => zrN own <| some ((q0, q2, q3), (q1, q4))
noncomputable def sr_can (st : Stt) : Stt := canA [1, 2, 3, 4, 5, 8, 10, 12, 13, 14, 15, 16, 17, 18, 19, 20, 21, 22, 23, 24, 25, 26, 27, 28, 29, 30, 31, 32, 33, 34, 35, 36, 37, 38, 39, 40, 41, 42, 43, 44, 45, 46, 47, 48, 49, 50, 51, 52, 53, 54, 55, 56, 57, 58, 59, 60, 61, 62, 63, 64, 65, 66, 67, 68, 69, 70, 71, 72, 73, 74, 75] [] [] [] 1051 st
noncomputable def sr_cok (st : Stt) : Bool := canAok [1, 2, 3, 4, 5, 8, 10, 12, 13, 14, 15, 16, 17, 18, 19, 20, 21, 22, 23, 24, 25, 26, 27, 28, 29, 30, 31, 32, 33, 34, 35, 36, 37, 38, 39, 40, 41, 42, 43, 44, 45, 46, 47, 48, 49, 50, 51, 52, 53, 54, 55, 56, 57, 58, 59, 60, 61, 62, 63, 64, 65, 66, 67, 68, 69, 70, 71, 72, 73, 74, 75] [] [] [] 1051 st
noncomputable def sr_read (st : Stt) : Option (sr_U × sr_V) := sr_rd (sr_cok st && (staysA [] [] st.own && juAll [1, 2, 3, 4, 5, 8, 10, 12, 13, 14, 15, 16, 17, 18, 19, 20, 21, 22, 23, 24, 25, 26, 27, 28, 29, 30, 31, 32, 33, 34, 35, 36, 37, 38, 39, 40, 41, 42, 43, 44, 45, 46, 47, 48, 49, 50, 51, 52, 53, 54, 55, 56, 57, 58, 59, 60, 61, 62, 63, 64, 65, 66, 67, 68, 69, 70, 71, 72, 73, 74, 75] (sr_can st).tm 76)) (sr_can st).tm[0]? (sr_can st).tm[6]? (sr_can st).tm[7]? (sr_can st).tm[9]? (sr_can st).tm[11]? (sr_can st).own
set_option maxRecDepth 100000 in
set_option maxHeartbeats 4000000 in
theorem sr_rd_ok {b : Bool} {tm : List AV} {own : Own} {u : sr_U} {v : sr_V} (hj : b = true → juAll [1, 2, 3, 4, 5, 8, 10, 12, 13, 14, 15, 16, 17, 18, 19, 20, 21, 22, 23, 24, 25, 26, 27, 28, 29, 30, 31, 32, 33, 34, 35, 36, 37, 38, 39, 40, 41, 42, 43, 44, 45, 46, 47, 48, 49, 50, 51, 52, 53, 54, 55, 56, 57, 58, 59, 60, 61, 62, 63, 64, 65, 66, 67, 68, 69, 70, 71, 72, 73, 74, 75] tm 76 = true) (h : sr_rd b tm[0]? tm[6]? tm[7]? tm[9]? tm[11]? own = some (u, v)) : b = true ∧ tm = (sr_St u v).tm ∧ own = (sr_St u v).own := by
  unfold sr_rd at h
  obtain ⟨rfl, h0⟩ := zrT_some h
  obtain ⟨za1, e0, h1⟩ := zrO_some h0
  obtain ⟨zc2, rfl, h2⟩ := zrA1_some h1
  obtain ⟨q0, rfl, h3⟩ := zrD_some h2
  obtain ⟨za3, e6, h4⟩ := zrO_some h3
  obtain ⟨zc4, rfl, h5⟩ := zrA1_some h4
  obtain ⟨q1, rfl, h6⟩ := zrB_some h5
  obtain ⟨za5, e7, h7⟩ := zrO_some h6
  obtain ⟨zc6, rfl, h8⟩ := zrA1_some h7
  obtain ⟨q2, rfl, h9⟩ := zrD_some h8
  obtain ⟨za7, e9, h10⟩ := zrO_some h9
  obtain ⟨zc8, rfl, h11⟩ := zrA1_some h10
  obtain ⟨q3, rfl, h12⟩ := zrD_some h11
  obtain ⟨za9, e11, h13⟩ := zrO_some h12
  obtain ⟨zc10, rfl, h14⟩ := zrA1_some h13
  obtain ⟨q4, rfl, h15⟩ := zrI_some h14
  obtain ⟨rfl, h16⟩ := zrN_some h15
  have h := Option.some.inj h16
  have hu := congrArg Prod.fst h
  have hv := congrArg Prod.snd h
  dsimp only at hu hv
  subst hu
  subst hv
  exact ⟨rfl, (tm_fill (hj rfl) (Lv := [(0, .one (.d false false (.list (.prod (.int .i64) (.list (.prod (.int .i64) (.int .i64))))) q0)), (6, .one (.v false (.bool q1))), (7, .one (.d false false (.list (.prod (.int .i64) (.list (.prod (.int .i64) (.int .i64))))) q2)), (9, .one (.d false false (.list (.prod (.int .i64) (.list (.prod (.int .i64) (.int .i64))))) q3)), (11, .one (.v false (.int .i64 q4)))]) (by kernel_rfl) ⟨e0, e6, e7, e9, e11, trivial⟩).trans (by kernel_rfl), rfl⟩
theorem sr_read_ok (st : Stt) (u : sr_U) (v : sr_V) (h : sr_read st = some (u, v)) : sr_cok st = true ∧ staysA [] [] st.own = true ∧ sr_can st = sr_St u v := by
  obtain ⟨h1, h2, h3⟩ := sr_rd_ok (fun hb => by rw [Bool.and_eq_true, Bool.and_eq_true] at hb; exact hb.2.2) h
  rw [Bool.and_eq_true, Bool.and_eq_true] at h1
  refine ⟨h1.1, h1.2.1, ?_⟩
  have e : sr_can st = ⟨(sr_can st).tm, (sr_can st).own, 1051⟩ := by kernel_rfl
  rw [e, h2, h3]
  rfl
noncomputable def sr_cond (u : sr_U) (v : sr_V) : Bool := runC (sr_step u) v
noncomputable def sr_g (u : sr_U) (v : sr_V) : Nat × sr_V := runG (sr_step u) v
theorem sr_hg : ∀ (u : sr_U) (v : sr_V), sr_cond u v = true → loopN (sr_step u) ((fun u v => runF (sr_step u) v) u v) v = some (sr_g u v) := by
  exact fun u v h => run_hg h
noncomputable def sr_m (st : Stt) : Option (Tr (Ex × Stt)) := sumM sr_read sr_cond sr_St sr_g [(0, .ret), (1, .exit 0)] st
noncomputable def suR_L52 : FuncId → Loops := addL 5 [0, 1, 0, 1, 1, 1, 1, 1, 1] sr_m suA_L55
set_option maxRecDepth 100000 in
set_option maxHeartbeats 4000000 in
theorem suR_L52_ok : LoopsOK Try.prog suR_L52 :=
  loop_sumF (body := (bodyOf Try.prog 5)) (c := (loopOf (bodyOf Try.prog 5) [1, 1, 1, 1, 1, 1, 0, 1, 0])) (kinds := [.ret, .exit 0]) (allow := [(0, .ret), (1, .exit 0)]) (St := sr_St) (step := sr_step) (W := [1, 2, 3, 4, 5, 8, 10, 12, 13, 14, 15, 16, 17, 18, 19, 20, 21, 22, 23, 24, 25, 26, 27, 28, 29, 30, 31, 32, 33, 34, 35, 36, 37, 38, 39, 40, 41, 42, 43, 44, 45, 46, 47, 48, 49, 50, 51, 52, 53, 54, 55, 56, 57, 58, 59, 60, 61, 62, 63, 64, 65, 66, 67, 68, 69, 70, 71, 72, 73, 74, 75]) (As := []) (ks := []) (dd := []) (nx := 1051) (n := 100000) (g := sr_g) (cond := sr_cond) (fuel := (fun u v => runF (sr_step u) v)) (read := sr_read) (by kernel_rfl) (suR_S51_ok) (suA_L55_ok) 7 ⟨Try.f5, by kernel_rfl, by kernel_rfl⟩ (by kernel_rfl) (by kernel_rfl) (by kernel_rfl) sr_step_eq sr_hg sr_read_ok
theorem inr_sz {R : Rg} (r : Ty.InR (.list (.prod (.int .i64) (.list (.prod (.int .i64) (.int .i64))))) R) : szG R = true := by
  unfold szG
  have h1 : R.length ≤ maxLen := r.1
  have h2 : ∀ x ∈ R, x.2.length ≤ maxLen := fun x hx => (r.2 x hx).2.1
  unfold maxLen at h1 h2
  rw [Bool.and_eq_true, decide_eq_true_eq, List.all_eq_true]
  exact ⟨by omega, fun x hx => decide_eq_true (by have := h2 x hx; omega)⟩
theorem inr_szL {L : List Rg} (r : Ty.InR (.list (.list (.prod (.int .i64) (.list (.prod (.int .i64) (.int .i64)))))) L) : L.all szG = true := List.all_eq_true.2 fun x hx => inr_sz (r.2 x hx)
theorem smB_len {L : List Rg} (h : smB L = true) : L.length ≤ 12 := of_decide_eq_true (Bool.and_eq_true _ _ ▸ h).1
theorem smL_of {L : List Rg} (h : L.length ≤ 12) (s : L.all szG = true) : smL L = true := by unfold smL; rw [decide_eq_true h, s]; rfl
theorem sl_eq {L : List Rg} {k g : Int} (h : supOK L k g = true) : supL L k g = tab L.length fun p => supT L k g (L.length - 1 - p) := by unfold supL; rw [h]; rfl
theorem sl_len {L : List Rg} {k g : Int} (h : supOK L k g = true) : (supL L k g).length = L.length := by rw [sl_eq h, tab_length]
theorem sl_get {L : List Rg} {k g : Int} (h : supOK L k g = true) {i : Nat} (hi : i < L.length) : (supL L k g).getD i [] = supT L k g (L.length - 1 - i) := by rw [sl_eq h, tab_getD _ hi]
theorem all_val {L : List Rg} (ha : L.all valGB = true) (i : Nat) : valG (L.getD i []) := by
  rw [List.getD_eq_getElem?_getD]
  cases e : L[i]? with
  | none => exact valG_nil
  | some r => exact valGB_iff.1 (List.all_eq_true.1 ha r (List.mem_of_getElem? e))
theorem sz_all (L : List Rg) (s : L.all szG = true) (i : Nat) : szG (L.getD i []) = true := by
  rw [List.getD_eq_getElem?_getD]
  cases e : L[i]? with
  | none => rfl
  | some r => exact List.all_eq_true.1 s r (List.mem_of_getElem? e)
theorem szT (L : List Rg) (k g : Int) (j : Nat) : szG (supT L k g j) = true := val_sz (sup_val L k g j)
theorem szD (R : Rg) (k : Int) : szG (dlG R k) = true := val_sz (dl_val R k)
theorem szO (an : Int) (A B : Rg) : szG (opR an A B) = true := val_sz (opR_val an A B)
theorem szV (A B : Rg) (k : Int) : szG (ovG A B k) = true := val_sz (ov_val A B k)
theorem sr_run {L : List Rg} {k k' : Int} (h : supOK L k 1 = true) (h' : supOK L k' 1 = true) (le : k ≤ k') (hn : L.length ≤ 12) : sr_cond (L, supL L k 1, supL L k' 1) (false, 0) = true ∧ (sr_g (L, supL L k 1, supL L k' 1) (false, 0)).1 = 1 := by
  obtain ⟨_, _, ha, hc⟩ := supOK_iff.1 h
  obtain ⟨_, _, _, hc'⟩ := supOK_iff.1 h'
  have hv := all_val ha
  have nl := sl_len h
  have nl' := sl_len h'
  have R1 := run_steps (step := sr_step (L, supL L k 1, supL L k' 1)) (St := fun j => (false, (j : Int))) (n := L.length) (t := (1, (false, (L.length : Int)))) (by
    simp only [sr_step, Tr.val, Int.lt_irrefl, decide_false, cond_false]) L.length 0 (Nat.zero_add _) (fun j _ hj => by
    have p1 : j < (supL L k 1).length := by omega
    have p0 : j < (supL L k' 1).length := by omega
    have hw : withinG (supT L k' 1 (L.length - 1 - j)) (supT L k 1 (L.length - 1 - j)) = true := (within_iff (sup_val _ _ _ _) (sup_val _ _ _ _)).2 (reach_law (g := 1) le hv (fun i hi => ⟨(hc i hi).1, (hc' i hi).1⟩) (L.length - 1 - j) (by omega))
    simp only [sr_step, Tr.val, lt_t hj, lt_t p1, lt_t p0, nn_t, el_L, sl_get h hj, sl_get h' hj, szT, hw, wi1 hj (show (L.length : Int) ≤ 9223372036854775806 by omega), Bool.not_true, Bool.and_self, cond_true, cond_false])
  exact ⟨R1.1, by rw [show sr_g (L, supL L k 1, supL L k' 1) (false, 0) = _ from R1.2]⟩
set_option maxRecDepth 100000 in
theorem law_SupportReach_tree (L : (Ty.list (.list (.prod (.int .i64) (.list (.prod (.int .i64) (.int .i64)))))).den) (k : Int) (b : Int) : evalF Try.prog suR_S51 (opens []) suR_L52 9 5 [.one (.d false false (.list (.prod (.int .i64) (.list (.prod (.int .i64) (.int .i64))))) L), .one (.v false (.int .i64 k)), .one (.v false (.int .u8 b))] = .br ((bif bif bif !smB L then true else decide (k < (0 : Int)) then true else decide (k > (64 : Int)) then true else ((smL L) && ((smL L) && (bif bif supE L k (1 : Int) != (0 : Int) then true else supE L (IntKind.wrap IntKind.i64 (k + IntKind.wrap IntKind.i64 (Int.tmod b (65 : Int)))) (1 : Int) != (0 : Int) then true else (bif bif (↑(List.length (supL L k (1 : Int))) : Int) != (↑(List.length L) : Int) then true else (↑(List.length (supL L (IntKind.wrap IntKind.i64 (k + IntKind.wrap IntKind.i64 (Int.tmod b (65 : Int)))) (1 : Int))) : Int) != (↑(List.length L) : Int) then true else ((sr_cond (L, supL L k (1 : Int), supL L (IntKind.wrap IntKind.i64 (k + IntKind.wrap IntKind.i64 (Int.tmod b (65 : Int)))) (1 : Int)) (false, (0 : Int))) && (bif Nat.beq (Prod.fst (sr_g (L, supL L k (1 : Int), supL L (IntKind.wrap IntKind.i64 (k + IntKind.wrap IntKind.i64 (Int.tmod b (65 : Int)))) (1 : Int)) (false, (0 : Int)))) (0 : Nat) then true else (Nat.beq (Prod.fst (sr_g (L, supL L k (1 : Int), supL L (IntKind.wrap IntKind.i64 (k + IntKind.wrap IntKind.i64 (Int.tmod b (65 : Int)))) (1 : Int)) (false, (0 : Int)))) (1 : Nat)))))))))) (.ret (.one (.v false (.bool (bif bif bif !smB L then true else decide (k < (0 : Int)) then true else decide (k > (64 : Int)) then true else bif bif supE L k (1 : Int) != (0 : Int) then true else supE L (IntKind.wrap IntKind.i64 (k + IntKind.wrap IntKind.i64 (Int.tmod b (65 : Int)))) (1 : Int) != (0 : Int) then true else bif bif (↑(List.length (supL L k (1 : Int))) : Int) != (↑(List.length L) : Int) then true else (↑(List.length (supL L (IntKind.wrap IntKind.i64 (k + IntKind.wrap IntKind.i64 (Int.tmod b (65 : Int)))) (1 : Int))) : Int) != (↑(List.length L) : Int) then false else bif Nat.beq (Prod.fst (sr_g (L, supL L k (1 : Int), supL L (IntKind.wrap IntKind.i64 (k + IntKind.wrap IntKind.i64 (Int.tmod b (65 : Int)))) (1 : Int)) (false, (0 : Int)))) (0 : Nat) then Prod.fst (Prod.snd (sr_g (L, supL L k (1 : Int), supL L (IntKind.wrap IntKind.i64 (k + IntKind.wrap IntKind.i64 (Int.tmod b (65 : Int)))) (1 : Int)) (false, (0 : Int)))) else true))))) (.bad 116) := by kernel_rfl
set_option maxHeartbeats 4000000 in
theorem law_SupportReach_all (L : (Ty.list (.list (.prod (.int .i64) (.list (.prod (.int .i64) (.int .i64)))))).den) (k : Int) (b : Int) (r0 : Ty.InR (.list (.list (.prod (.int .i64) (.list (.prod (.int .i64) (.int .i64)))))) L) (l1 : -9223372036854775808 ≤ k) (g1 : k ≤ 9223372036854775807) (l2 : 0 ≤ b) (g2 : b ≤ 255) : Tr.all (fun r => ∃ kn, r = AV.one (.v kn (.bool true))) (.br ((bif bif bif !smB L then true else decide (k < (0 : Int)) then true else decide (k > (64 : Int)) then true else ((smL L) && ((smL L) && (bif bif supE L k (1 : Int) != (0 : Int) then true else supE L (IntKind.wrap IntKind.i64 (k + IntKind.wrap IntKind.i64 (Int.tmod b (65 : Int)))) (1 : Int) != (0 : Int) then true else (bif bif (↑(List.length (supL L k (1 : Int))) : Int) != (↑(List.length L) : Int) then true else (↑(List.length (supL L (IntKind.wrap IntKind.i64 (k + IntKind.wrap IntKind.i64 (Int.tmod b (65 : Int)))) (1 : Int))) : Int) != (↑(List.length L) : Int) then true else ((sr_cond (L, supL L k (1 : Int), supL L (IntKind.wrap IntKind.i64 (k + IntKind.wrap IntKind.i64 (Int.tmod b (65 : Int)))) (1 : Int)) (false, (0 : Int))) && (bif Nat.beq (Prod.fst (sr_g (L, supL L k (1 : Int), supL L (IntKind.wrap IntKind.i64 (k + IntKind.wrap IntKind.i64 (Int.tmod b (65 : Int)))) (1 : Int)) (false, (0 : Int)))) (0 : Nat) then true else (Nat.beq (Prod.fst (sr_g (L, supL L k (1 : Int), supL L (IntKind.wrap IntKind.i64 (k + IntKind.wrap IntKind.i64 (Int.tmod b (65 : Int)))) (1 : Int)) (false, (0 : Int)))) (1 : Nat)))))))))) (.ret (.one (.v false (.bool (bif bif bif !smB L then true else decide (k < (0 : Int)) then true else decide (k > (64 : Int)) then true else bif bif supE L k (1 : Int) != (0 : Int) then true else supE L (IntKind.wrap IntKind.i64 (k + IntKind.wrap IntKind.i64 (Int.tmod b (65 : Int)))) (1 : Int) != (0 : Int) then true else bif bif (↑(List.length (supL L k (1 : Int))) : Int) != (↑(List.length L) : Int) then true else (↑(List.length (supL L (IntKind.wrap IntKind.i64 (k + IntKind.wrap IntKind.i64 (Int.tmod b (65 : Int)))) (1 : Int))) : Int) != (↑(List.length L) : Int) then false else bif Nat.beq (Prod.fst (sr_g (L, supL L k (1 : Int), supL L (IntKind.wrap IntKind.i64 (k + IntKind.wrap IntKind.i64 (Int.tmod b (65 : Int)))) (1 : Int)) (false, (0 : Int)))) (0 : Nat) then Prod.fst (Prod.snd (sr_g (L, supL L k (1 : Int), supL L (IntKind.wrap IntKind.i64 (k + IntKind.wrap IntKind.i64 (Int.tmod b (65 : Int)))) (1 : Int)) (false, (0 : Int)))) else true))))) (.bad 116)) := by
  obtain ⟨K, rfl⟩ : ∃ K : List Rg, K = L := ⟨L, rfl⟩
  have sA : K.all szG = true := inr_szL r0
  cases hB : smB K
  · simp only [Bool.not_false, cond_true]
    exact ⟨fun _ => ⟨_, rfl⟩, fun h => by cases h⟩
  have hl : K.length ≤ 12 := smB_len hB
  have hm : smL K = true := smL_of hl sA
  by_cases h0 : k < (0 : Int)
  · simp only [decide_eq_true h0, Bool.not_true, cond_true, cond_false]
    exact ⟨fun _ => ⟨_, rfl⟩, fun h => by cases h⟩
  by_cases h1 : k > (64 : Int)
  · simp only [decide_eq_false h0, decide_eq_true h1, Bool.not_true, cond_true, cond_false]
    exact ⟨fun _ => ⟨_, rfl⟩, fun h => by cases h⟩
  have b0 : 0 ≤ b.tmod 65 := Int.tmod_nonneg _ (by omega)
  have b1 : b.tmod 65 < 65 := Int.tmod_lt_of_pos b (by decide)
  obtain ⟨c, hc⟩ : ∃ c, c = b.tmod 65 := ⟨_, rfl⟩
  rw [← hc] at b0 b1 ⊢
  have w1 : IntKind.wrap IntKind.i64 c = c := wid (by omega) (by omega)
  have w2 : IntKind.wrap IntKind.i64 (k + c) = k + c := wid (by omega) (by omega)
  rw [w1, w2]
  cases he : supE K k 1 == (0 : Int)
  · have hb : (supE K k 1 != (0 : Int)) = true := by rw [bne, he]; rfl
    simp only [hm, hb, decide_eq_false h0, decide_eq_false h1, Bool.not_true, Bool.and_self, cond_true, cond_false]
    exact ⟨fun _ => ⟨_, rfl⟩, fun h => by cases h⟩
  have hb : (supE K k 1 != (0 : Int)) = false := by rw [bne, he]; rfl
  cases he2 : supE K (k + c) 1 == (0 : Int)
  · have hb2 : (supE K (k + c) 1 != (0 : Int)) = true := by rw [bne, he2]; rfl
    simp only [hm, hb, hb2, decide_eq_false h0, decide_eq_false h1, Bool.not_true, Bool.and_self, cond_true, cond_false]
    exact ⟨fun _ => ⟨_, rfl⟩, fun h => by cases h⟩
  have hb2 : (supE K (k + c) 1 != (0 : Int)) = false := by rw [bne, he2]; rfl
  have hok : supOK K k 1 = true := by rw [← supE_iff hm, he]
  have hok2 : supOK K (k + c) 1 = true := by rw [← supE_iff hm, he2]
  have n1 := sl_len hok
  have n2 := sl_len hok2
  obtain ⟨v1, v2⟩ := sr_run hok hok2 (show k ≤ k + c by omega) hl
  simp only [hm, hb, hb2, n1, n2, v1, v2, decide_eq_false h0, decide_eq_false h1, Nat.beq, bne_self_eq_false, Bool.not_true, Bool.and_self, cond_true, cond_false]
  exact ⟨fun _ => ⟨_, rfl⟩, fun h => by cases h⟩
set_option maxHeartbeats 4000000 in
theorem law_SupportReach (v0 : Value) (x0 : ((.list (.list (.prod (.int .i64) (.list (.prod (.int .i64) (.int .i64)))))) : Ty).den) (r0 : Ty.InR (.list (.list (.prod (.int .i64) (.list (.prod (.int .i64) (.int .i64)))))) x0) (k : Int) (l1 : -9223372036854775808 ≤ k) (g1 : k ≤ 9223372036854775807) (b : Int) (l2 : 0 ≤ b) (g2 : b ≤ 255) (z_w : World) (i0 : (AV.one (.d false false (.list (.prod (.int .i64) (.list (.prod (.int .i64) (.int .i64))))) x0)).is [] (fun _ => none) (fun b => b < z_w.heap.size) z_w v0) : Calls Try.prog 5 #[v0, .int .i64 k, .int .u8 b] z_w fun e w' => e = .returned (.bool true) ∧ Ext z_w w' := by
  obtain ⟨L, rfl⟩ : ∃ y, y = x0 := ⟨_, rfl⟩
  refine law_of_tree (by kernel_rfl) (suR_S51_ok) (suR_L52_ok) (law_SupportReach_tree L k b) (law_SupportReach_all L k b r0 l1 g1 l2 g2) rfl z_w _ _ (fun _ h => h) ⟨_, _, rfl, i0, ⟨_, _, rfl, rfl, ⟨_, _, rfl, rfl, rfl⟩⟩⟩
end Go.Proofs.Ytehnepfjbaneaaa
