/-
  Layer 31: SupportHolds.
-/
import Derived.Test.YtehnepfjbaneaaaProg
import Derived.Test.YtehnepfjbaneaaaFvX
import Derived.Test.YtehnepfjbaneaaaFvZ
import Derived.Test.YtehnepfjbaneaaaAut
import Derived.Test.YtehnepfjbaneaaaRd
import Derived.Test.YtehnepfjbaneaaaPl
import Derived.Test.YtehnepfjbaneaaaScn
import Derived.Test.YtehnepfjbaneaaaRegM
import Derived.Test.YtehnepfjbaneaaaMor
import Derived.Test.YtehnepfjbaneaaaRgA
import Derived.Test.YtehnepfjbaneaaaRgB
import Derived.Test.YtehnepfjbaneaaaRgC
import Derived.Test.YtehnepfjbaneaaaRgD
import Derived.Test.YtehnepfjbaneaaaMoB
import Derived.Test.YtehnepfjbaneaaaMoD
import Derived.Test.YtehnepfjbaneaaaSuA
import Derived.Test.YtehnepfjbaneaaaSuW
namespace Go.Proofs.Ytehnepfjbaneaaa
open Go
noncomputable def suH_S51 : Sums := addS 7 gTrue suA_S57
theorem suH_S51_ok : SumOK Try.prog suH_S51 := addS_ok (gTrue_ok (by kernel_rfl) (suW_S69_ok) (L0_ok _) aw7_tree) (suA_S57_ok)
abbrev sh_U : Type := (Ty.list (.list (.prod (.int .i64) (.list (.prod (.int .i64) (.int .i64)))))).den × Int × Int × (Ty.list (.list (.prod (.int .i64) (.list (.prod (.int .i64) (.int .i64)))))).den
abbrev sh_V : Type := Bool × Int
noncomputable def sh_St (u : sh_U) (v : sh_V) : Stt := ⟨[.one (.d false false (.list (.prod (.int .i64) (.list (.prod (.int .i64) (.int .i64))))) u.1), .one (.v false (.int .i64 u.2.1)), .one (.v false (.int .i64 u.2.2.1)), .one .junk, .one .junk, .one .junk, .one (.v false (.bool v.1)), .one (.d false false (.list (.prod (.int .i64) (.list (.prod (.int .i64) (.int .i64))))) u.2.2.2), .one .junk, .one (.v false (.int .i64 v.2)), .one .junk, .one .junk, .one .junk, .one .junk, .one .junk, .one .junk, .one .junk, .one .junk, .one .junk, .one .junk, .one .junk, .one .junk, .one .junk, .one .junk, .one .junk, .one .junk, .one .junk, .one .junk, .one .junk, .one .junk, .one .junk, .one .junk, .one .junk, .one .junk, .one .junk, .one .junk, .one .junk, .one .junk, .one .junk, .one .junk, .one .junk, .one .junk, .one .junk, .one .junk, .one .junk, .one .junk, .one .junk, .one .junk, .one .junk, .one .junk, .one .junk, .one .junk, .one .junk, .one .junk, .one .junk, .one .junk, .one .junk, .one .junk, .one .junk, .one .junk, .one .junk, .one .junk, .one .junk, .one .junk, .one .junk, .one .junk, .one .junk, .one .junk, .one .junk, .one .junk, .one .junk, .one .junk, .one .junk, .one .junk, .one .junk, .one .junk, .one .junk, .one .junk, .one .junk, .one .junk, .one .junk, .one .junk, .one .junk, .one .junk, .one .junk, .one .junk, .one .junk, .one .junk, .one .junk, .one .junk, .one .junk, .one .junk, .one .junk, .one .junk, .one .junk, .one .junk, .one .junk, .one .junk, .one .junk, .one .junk, .one .junk, .one .junk, .one .junk, .one .junk, .one .junk, .one .junk, .one .junk, .one .junk], [], 1037⟩
noncomputable def sh_step (u : sh_U) (v : sh_V) : Tr (sh_V ⊕ (Nat × sh_V)) :=
  match u, v with
  | (q0, q1, q2, q4), (q3, q5) => .br (decide (IntKind.wrap IntKind.i64 (q5 + (1 : Int)) < (↑(List.length q0) : Int))) (.br (decide ((0 : Int) ≤ IntKind.wrap IntKind.i64 (q5 + (1 : Int))) && decide (IntKind.wrap IntKind.i64 (q5 + (1 : Int)) < (↑(List.length q0) : Int))) (.br (decide ((0 : Int) ≤ q5) && decide (q5 < (↑(List.length q0) : Int))) (.br (szG (el_lilii q0 (IntKind.wrap IntKind.i64 (q5 + (1 : Int)))) && szG (el_lilii q0 q5)) (.br (decide ((0 : Int) ≤ q5) && decide (q5 < (↑(List.length q0) : Int))) (.br (szG (el_lilii q0 q5)) (.br (bif ovE (el_lilii q0 (IntKind.wrap IntKind.i64 (q5 + (1 : Int)))) (el_lilii q0 q5) q1 != (0 : Int) then true else chkE (el_lilii q0 q5) q2 != (0 : Int)) (.ret (.inr (0, (false, q5)))) (.br (decide ((0 : Int) ≤ IntKind.wrap IntKind.i64 (q5 + (1 : Int))) && decide (IntKind.wrap IntKind.i64 (q5 + (1 : Int)) < (↑(List.length q4) : Int))) (.br (szG (ovR (el_lilii q0 (IntKind.wrap IntKind.i64 (q5 + (1 : Int)))) (el_lilii q0 q5) q1) && szG (el_lilii q4 (IntKind.wrap IntKind.i64 (q5 + (1 : Int))))) (.br (decide ((0 : Int) ≤ q5) && decide (q5 < (↑(List.length q4) : Int))) (.br (szG (el_lilii q4 q5) && szG (dlG (el_lilii q0 q5) q2)) (.br (szG (opR (2 : Int) (ovR (el_lilii q0 (IntKind.wrap IntKind.i64 (q5 + (1 : Int)))) (el_lilii q0 q5) q1) (el_lilii q4 (IntKind.wrap IntKind.i64 (q5 + (1 : Int))))) && szG (opR (2 : Int) (el_lilii q4 q5) (dlG (el_lilii q0 q5) q2))) (.br (!withinG (opR (2 : Int) (ovR (el_lilii q0 (IntKind.wrap IntKind.i64 (q5 + (1 : Int)))) (el_lilii q0 q5) q1) (el_lilii q4 (IntKind.wrap IntKind.i64 (q5 + (1 : Int))))) (opR (2 : Int) (el_lilii q4 q5) (dlG (el_lilii q0 q5) q2))) (.ret (.inr (0, (false, q5)))) (.ret (.inl (q3, IntKind.wrap IntKind.i64 (q5 + (1 : Int)))))) (.bad 900)) (.bad 900)) (.bad 29)) (.bad 900)) (.bad 29))) (.bad 900)) (.bad 29)) (.bad 900)) (.bad 29)) (.bad 29)) (.ret (.inr (1, (q3, q5))))
set_option maxRecDepth 100000 in
set_option maxHeartbeats 4000000 in
theorem sh_step_eq : ∀ (u : sh_U) (v : sh_V), (evalC Try.prog (evalB Try.prog suH_S51 (opens []) suA_L55 7).1 (evalB Try.prog suH_S51 (opens []) suA_L55 7).2 (opens []) (suA_L55 3) 100000 (0 :: [0, 1, 0, 1, 1, 1, 1, 1]) (loopOf (bodyOf Try.prog 3) [1, 1, 1, 1, 1, 0, 1, 0]) (sh_St u v) []).bind (finF [3, 4, 5, 8, 10, 11, 12, 13, 14, 15, 16, 17, 18, 19, 20, 21, 22, 23, 24, 25, 26, 27, 28, 29, 30, 31, 32, 33, 34, 35, 36, 37, 38, 39, 40, 41, 42, 43, 44, 45, 46, 47, 48, 49, 50, 51, 52, 53, 54, 55, 56, 57, 58, 59, 60, 61, 62, 63, 64, 65, 66, 67, 68, 69, 70, 71, 72, 73, 74, 75, 76, 77, 78, 79, 80, 81, 82, 83, 84, 85, 86, 87, 88, 89, 90, 91, 92, 93, 94, 95, 96, 97, 98, 99, 100, 101, 102, 103, 104, 105, 106, 107] [] [] [] 1037) = (sh_step u v).bind (outA (sh_St u) [.ret, .exit 0]) := by
  rintro ⟨q0, q1, q2, q4⟩ ⟨q3, q5⟩
  kernel_rfl
noncomputable def sh_rd (b : Bool) (o0 : Option AV) (o1 : Option AV) (o2 : Option AV) (o6 : Option AV) (o7 : Option AV) (o9 : Option AV) (own : Own) : Option (sh_U × sh_V) := zrT b <| zrO o0 fun za1 => zrA1 za1 fun zc2 => zrD (.list (.prod (.int .i64) (.list (.prod (.int .i64) (.int .i64))))) zc2 fun q0 => zrO o1 fun za3 => zrA1 za3 fun zc4 => zrI .i64 zc4 fun q1 => zrO o2 fun za5 => zrA1 za5 fun zc6 => zrI .i64 zc6 fun q2 => zrO o6 fun za7 => zrA1 za7 fun zc8 => zrB zc8 fun q3 => zrO o7 fun za9 => zrA1 za9 fun zc10 => zrD (.list (.prod (.int .i64) (.list (.prod (.int .i64) (.int .i64))))) zc10 fun q4 => zrO o9 fun za11 => zrA1 za11 fun zc12 => zrI .i64 zc12 fun q5 => zrN own <| some ((q0, q1, q2, q4), (q3, q5))
noncomputable def sh_can (st : Stt) : Stt := canA [3, 4, 5, 8, 10, 11, 12, 13, 14, 15, 16, 17, 18, 19, 20, 21, 22, 23, 24, 25, 26, 27, 28, 29, 30, 31, 32, 33, 34, 35, 36, 37, 38, 39, 40, 41, 42, 43, 44, 45, 46, 47, 48, 49, 50, 51, 52, 53, 54, 55, 56, 57, 58, 59, 60, 61, 62, 63, 64, 65, 66, 67, 68, 69, 70, 71, 72, 73, 74, 75, 76, 77, 78, 79, 80, 81, 82, 83, 84, 85, 86, 87, 88, 89, 90, 91, 92, 93, 94, 95, 96, 97, 98, 99, 100, 101, 102, 103, 104, 105, 106, 107] [] [] [] 1037 st
noncomputable def sh_cok (st : Stt) : Bool := canAok [3, 4, 5, 8, 10, 11, 12, 13, 14, 15, 16, 17, 18, 19, 20, 21, 22, 23, 24, 25, 26, 27, 28, 29, 30, 31, 32, 33, 34, 35, 36, 37, 38, 39, 40, 41, 42, 43, 44, 45, 46, 47, 48, 49, 50, 51, 52, 53, 54, 55, 56, 57, 58, 59, 60, 61, 62, 63, 64, 65, 66, 67, 68, 69, 70, 71, 72, 73, 74, 75, 76, 77, 78, 79, 80, 81, 82, 83, 84, 85, 86, 87, 88, 89, 90, 91, 92, 93, 94, 95, 96, 97, 98, 99, 100, 101, 102, 103, 104, 105, 106, 107] [] [] [] 1037 st
noncomputable def sh_read (st : Stt) : Option (sh_U × sh_V) := sh_rd (sh_cok st && (staysA [] [] st.own && juAll [3, 4, 5, 8, 10, 11, 12, 13, 14, 15, 16, 17, 18, 19, 20, 21, 22, 23, 24, 25, 26, 27, 28, 29, 30, 31, 32, 33, 34, 35, 36, 37, 38, 39, 40, 41, 42, 43, 44, 45, 46, 47, 48, 49, 50, 51, 52, 53, 54, 55, 56, 57, 58, 59, 60, 61, 62, 63, 64, 65, 66, 67, 68, 69, 70, 71, 72, 73, 74, 75, 76, 77, 78, 79, 80, 81, 82, 83, 84, 85, 86, 87, 88, 89, 90, 91, 92, 93, 94, 95, 96, 97, 98, 99, 100, 101, 102, 103, 104, 105, 106, 107] (sh_can st).tm 108)) (sh_can st).tm[0]? (sh_can st).tm[1]? (sh_can st).tm[2]? (sh_can st).tm[6]? (sh_can st).tm[7]? (sh_can st).tm[9]? (sh_can st).own
set_option maxRecDepth 100000 in
set_option maxHeartbeats 4000000 in
theorem sh_rd_ok {b : Bool} {tm : List AV} {own : Own} {u : sh_U} {v : sh_V} (hj : b = true → juAll [3, 4, 5, 8, 10, 11, 12, 13, 14, 15, 16, 17, 18, 19, 20, 21, 22, 23, 24, 25, 26, 27, 28, 29, 30, 31, 32, 33, 34, 35, 36, 37, 38, 39, 40, 41, 42, 43, 44, 45, 46, 47, 48, 49, 50, 51, 52, 53, 54, 55, 56, 57, 58, 59, 60, 61, 62, 63, 64, 65, 66, 67, 68, 69, 70, 71, 72, 73, 74, 75, 76, 77, 78, 79, 80, 81, 82, 83, 84, 85, 86, 87, 88, 89, 90, 91, 92, 93, 94, 95, 96, 97, 98, 99, 100, 101, 102, 103, 104, 105, 106, 107] tm 108 = true) (h : sh_rd b tm[0]? tm[1]? tm[2]? tm[6]? tm[7]? tm[9]? own = some (u, v)) : b = true ∧ tm = (sh_St u v).tm ∧ own = (sh_St u v).own := by
  unfold sh_rd at h
  obtain ⟨rfl, h0⟩ := zrT_some h
  obtain ⟨za1, e0, h1⟩ := zrO_some h0
  obtain ⟨zc2, rfl, h2⟩ := zrA1_some h1
  obtain ⟨q0, rfl, h3⟩ := zrD_some h2
  obtain ⟨za3, e1, h4⟩ := zrO_some h3
  obtain ⟨zc4, rfl, h5⟩ := zrA1_some h4
  obtain ⟨q1, rfl, h6⟩ := zrI_some h5
  obtain ⟨za5, e2, h7⟩ := zrO_some h6
  obtain ⟨zc6, rfl, h8⟩ := zrA1_some h7
  obtain ⟨q2, rfl, h9⟩ := zrI_some h8
  obtain ⟨za7, e6, h10⟩ := zrO_some h9
  obtain ⟨zc8, rfl, h11⟩ := zrA1_some h10
  obtain ⟨q3, rfl, h12⟩ := zrB_some h11
  obtain ⟨za9, e7, h13⟩ := zrO_some h12
  obtain ⟨zc10, rfl, h14⟩ := zrA1_some h13
  obtain ⟨q4, rfl, h15⟩ := zrD_some h14
  obtain ⟨za11, e9, h16⟩ := zrO_some h15
  obtain ⟨zc12, rfl, h17⟩ := zrA1_some h16
  obtain ⟨q5, rfl, h18⟩ := zrI_some h17
  obtain ⟨rfl, h19⟩ := zrN_some h18
  have h := Option.some.inj h19
  have hu := congrArg Prod.fst h
  have hv := congrArg Prod.snd h
  dsimp only at hu hv
  subst hu
  subst hv
  exact ⟨rfl, (tm_fill (hj rfl) (Lv := [(0, .one (.d false false (.list (.prod (.int .i64) (.list (.prod (.int .i64) (.int .i64))))) q0)), (1, .one (.v false (.int .i64 q1))), (2, .one (.v false (.int .i64 q2))), (6, .one (.v false (.bool q3))), (7, .one (.d false false (.list (.prod (.int .i64) (.list (.prod (.int .i64) (.int .i64))))) q4)), (9, .one (.v false (.int .i64 q5)))]) (by kernel_rfl) ⟨e0, e1, e2, e6, e7, e9, trivial⟩).trans (by kernel_rfl), rfl⟩
theorem sh_read_ok (st : Stt) (u : sh_U) (v : sh_V) (h : sh_read st = some (u, v)) : sh_cok st = true ∧ staysA [] [] st.own = true ∧ sh_can st = sh_St u v := by
  obtain ⟨h1, h2, h3⟩ := sh_rd_ok (fun hb => by rw [Bool.and_eq_true, Bool.and_eq_true] at hb; exact hb.2.2) h
  rw [Bool.and_eq_true, Bool.and_eq_true] at h1
  refine ⟨h1.1, h1.2.1, ?_⟩
  have e : sh_can st = ⟨(sh_can st).tm, (sh_can st).own, 1037⟩ := by kernel_rfl
  rw [e, h2, h3]
  rfl
noncomputable def sh_cond (u : sh_U) (v : sh_V) : Bool := runC (sh_step u) v
noncomputable def sh_g (u : sh_U) (v : sh_V) : Nat × sh_V := runG (sh_step u) v
theorem sh_hg : ∀ (u : sh_U) (v : sh_V), sh_cond u v = true → loopN (sh_step u) ((fun u v => runF (sh_step u) v) u v) v = some (sh_g u v) := by
  exact fun u v h => run_hg h
noncomputable def sh_m (st : Stt) : Option (Tr (Ex × Stt)) := sumM sh_read sh_cond sh_St sh_g [(0, .ret), (1, .exit 0)] st
noncomputable def suH_L52 : FuncId → Loops := addL 3 [0, 1, 0, 1, 1, 1, 1, 1] sh_m suA_L55
set_option maxRecDepth 100000 in
set_option maxHeartbeats 4000000 in
theorem suH_L52_ok : LoopsOK Try.prog suH_L52 :=
  loop_sumF (body := (bodyOf Try.prog 3)) (c := (loopOf (bodyOf Try.prog 3) [1, 1, 1, 1, 1, 0, 1, 0])) (kinds := [.ret, .exit 0]) (allow := [(0, .ret), (1, .exit 0)]) (St := sh_St) (step := sh_step) (W := [3, 4, 5, 8, 10, 11, 12, 13, 14, 15, 16, 17, 18, 19, 20, 21, 22, 23, 24, 25, 26, 27, 28, 29, 30, 31, 32, 33, 34, 35, 36, 37, 38, 39, 40, 41, 42, 43, 44, 45, 46, 47, 48, 49, 50, 51, 52, 53, 54, 55, 56, 57, 58, 59, 60, 61, 62, 63, 64, 65, 66, 67, 68, 69, 70, 71, 72, 73, 74, 75, 76, 77, 78, 79, 80, 81, 82, 83, 84, 85, 86, 87, 88, 89, 90, 91, 92, 93, 94, 95, 96, 97, 98, 99, 100, 101, 102, 103, 104, 105, 106, 107]) (As := []) (ks := []) (dd := []) (nx := 1037) (n := 100000) (g := sh_g) (cond := sh_cond) (fuel := (fun u v => runF (sh_step u) v)) (read := sh_read) (by kernel_rfl) (suH_S51_ok) (suA_L55_ok) 7 ⟨Try.f3, by kernel_rfl, by kernel_rfl⟩ (by kernel_rfl) (by kernel_rfl) (by kernel_rfl) sh_step_eq sh_hg sh_read_ok
theorem inr_sz {R : Rg} (r : Ty.InR (.list (.prod (.int .i64) (.list (.prod (.int .i64) (.int .i64))))) R) : szG R = true := by
  unfold szG
  have h1 : R.length ≤ maxLen := r.1
  have h2 : ∀ x ∈ R, x.2.length ≤ maxLen := fun x hx => (r.2 x hx).2.1
  unfold maxLen at h1 h2
  rw [Bool.and_eq_true, decide_eq_true_eq, List.all_eq_true]
  exact ⟨by omega, fun x hx => decide_eq_true (by have := h2 x hx; omega)⟩
theorem inr_szL {L : List Rg} (r : Ty.InR (.list (.list (.prod (.int .i64) (.list (.prod (.int .i64) (.int .i64)))))) L) : L.all szG = true := List.all_eq_true.2 fun x hx => inr_sz (r.2 x hx)
theorem smB_len {L : List Rg} (h : smB L = true) : L.length ≤ 12 := of_decide_eq_true (Bool.and_eq_true _ _ ▸ h).1
theorem smL_of {L : List Rg} (h : L.length ≤ 12) (s : L.all szG = true) : smL L = true := by unfold smL; rw [decide_eq_true h, s]; rfl
theorem sl_eq {L : List Rg} {k g : Int} (h : supOK L k g = true) : supL L k g = tab L.length fun p => supT L k g (L.length - 1 - p) := by unfold supL; rw [h]; rfl
theorem sl_len {L : List Rg} {k g : Int} (h : supOK L k g = true) : (supL L k g).length = L.length := by rw [sl_eq h, tab_length]
theorem sl_get {L : List Rg} {k g : Int} (h : supOK L k g = true) {i : Nat} (hi : i < L.length) : (supL L k g).getD i [] = supT L k g (L.length - 1 - i) := by rw [sl_eq h, tab_getD _ hi]
theorem all_val {L : List Rg} (ha : L.all valGB = true) (i : Nat) : valG (L.getD i []) := by
  rw [List.getD_eq_getElem?_getD]
  cases e : L[i]? with
  | none => exact valG_nil
  | some r => exact valGB_iff.1 (List.all_eq_true.1 ha r (List.mem_of_getElem? e))
theorem sz_all (L : List Rg) (s : L.all szG = true) (i : Nat) : szG (L.getD i []) = true := by
  rw [List.getD_eq_getElem?_getD]
  cases e : L[i]? with
  | none => rfl
  | some r => exact List.all_eq_true.1 s r (List.mem_of_getElem? e)
theorem szT (L : List Rg) (k g : Int) (j : Nat) : szG (supT L k g j) = true := val_sz (sup_val L k g j)
theorem szD (R : Rg) (k : Int) : szG (dlG R k) = true := val_sz (dl_val R k)
theorem szO (an : Int) (A B : Rg) : szG (opR an A B) = true := val_sz (opR_val an A B)
theorem szV (A B : Rg) (k : Int) : szG (ovG A B k) = true := val_sz (ov_val A B k)
theorem sh_run {L : List Rg} {k g : Int} (h : supOK L k g = true) (hn : L.length ≤ 12) (hs : L.all szG = true) : sh_cond (L, k, g, supL L k g) (false, 0) = true ∧ (sh_g (L, k, g, supL L k g) (false, 0)).1 = 1 := by
  obtain ⟨_, _, ha, hc⟩ := supOK_iff.1 h
  have hv := all_val ha
  have nl := sl_len h
  have R1 := run_steps (step := sh_step (L, k, g, supL L k g)) (St := fun j => (false, (j : Int))) (n := L.length - 1) (t := (1, (false, ((L.length - 1 : Nat) : Int)))) (by
    have w : IntKind.wrap IntKind.i64 (((L.length - 1 : Nat) : Int) + (1 : Int)) = ((L.length - 1 + 1 : Nat) : Int) := by rw [wid (by omega) (by omega)]; omega
    have d : decide (((L.length - 1 + 1 : Nat) : Int) < (L.length : Int)) = false := decide_eq_false (by omega)
    simp only [sh_step, Tr.val, w, d, cond_false]) (L.length - 1) 0 (Nat.zero_add _) (fun j _ hj => by
    have w : IntKind.wrap IntKind.i64 ((j : Int) + (1 : Int)) = ((j + 1 : Nat) : Int) := by rw [wid (by omega) (by omega)]; omega
    have q1 : j + 1 < L.length := by omega
    have q0 : j < L.length := by omega
    have p1 : j + 1 < (supL L k g).length := by omega
    have p0 : j < (supL L k g).length := by omega
    obtain ⟨c1, c2⟩ := hc j q1
    obtain ⟨o1, o2⟩ := ov_ok (R := L.getD (j + 1) []) (B := L.getD j []) (k := k) (hv (j + 1))
    have o3 := o2 c1
    rw [c1] at o1
    have e1 : L.length - 1 - (L.length - 2 - j) = j + 1 := by omega
    have e2 : L.length - 2 - (L.length - 2 - j) = j := by omega
    have g0 : (supL L k g).getD j [] = supT L k g (L.length - 2 - j + 1) := by rw [sl_get h q0, show L.length - 1 - j = L.length - 2 - j + 1 by omega]
    have g1 : (supL L k g).getD (j + 1) [] = supT L k g (L.length - 2 - j) := by rw [sl_get h q1, show L.length - 1 - (j + 1) = L.length - 2 - j by omega]
    have hw := holds_law (L := L) (k := k) (g := g) (j := L.length - 2 - j) (hv _)
    rw [e1, e2] at hw
    simp only [sh_step, Tr.val, w, lt_t q1, lt_t q0, lt_t p1, lt_t p0, nn_t, el_L, sz_all L hs, o1, c2, o3, g0, g1, szT, szD, szO, szV, hw, bne_self_eq_false, Bool.not_true, Bool.and_self, cond_true, cond_false])
  exact ⟨R1.1, by rw [show sh_g (L, k, g, supL L k g) (false, 0) = _ from R1.2]⟩
set_option maxRecDepth 100000 in
theorem law_SupportHolds_tree (L : (Ty.list (.list (.prod (.int .i64) (.list (.prod (.int .i64) (.int .i64)))))).den) (k : Int) (g : Int) : evalF Try.prog suH_S51 (opens []) suH_L52 9 3 [.one (.d false false (.list (.prod (.int .i64) (.list (.prod (.int .i64) (.int .i64))))) L), .one (.v false (.int .i64 k)), .one (.v false (.int .i64 g))] = .br ((bif !smB L then true else ((smL L) && (bif supE L k g != (0 : Int) then true else (((bif (↑(List.length (supL L k g)) : Int) != (↑(List.length L) : Int) then true else (bif decide ((↑(List.length (supL L k g)) : Int) > (0 : Int)) then (decide ((0 : Int) ≤ IntKind.wrap IntKind.i64 ((↑(List.length (supL L k g)) : Int) - (1 : Int))) && decide (IntKind.wrap IntKind.i64 ((↑(List.length (supL L k g)) : Int) - (1 : Int)) < (↑(List.length (supL L k g)) : Int))) else true))) && (bif bif (↑(List.length (supL L k g)) : Int) != (↑(List.length L) : Int) then true else bif decide ((↑(List.length (supL L k g)) : Int) > (0 : Int)) then (↑(List.length (el_lilii (supL L k g) (IntKind.wrap IntKind.i64 ((↑(List.length (supL L k g)) : Int) - (1 : Int))))) : Int) != (0 : Int) else false then true else ((sh_cond (L, k, g, supL L k g) (false, (0 : Int))) && (bif Nat.beq (Prod.fst (sh_g (L, k, g, supL L k g) (false, (0 : Int)))) (0 : Nat) then true else (Nat.beq (Prod.fst (sh_g (L, k, g, supL L k g) (false, (0 : Int)))) (1 : Nat)))))))))) (.ret (.one (.v false (.bool (bif !smB L then true else bif supE L k g != (0 : Int) then bif (↑(List.length (supL L k g)) : Int) == (0 : Int) then true else false else bif bif (↑(List.length (supL L k g)) : Int) != (↑(List.length L) : Int) then true else bif decide ((↑(List.length (supL L k g)) : Int) > (0 : Int)) then (↑(List.length (el_lilii (supL L k g) (IntKind.wrap IntKind.i64 ((↑(List.length (supL L k g)) : Int) - (1 : Int))))) : Int) != (0 : Int) else false then false else bif Nat.beq (Prod.fst (sh_g (L, k, g, supL L k g) (false, (0 : Int)))) (0 : Nat) then Prod.fst (Prod.snd (sh_g (L, k, g, supL L k g) (false, (0 : Int)))) else true))))) (.bad 116) := by kernel_rfl
set_option maxHeartbeats 4000000 in
theorem law_SupportHolds_all (L : (Ty.list (.list (.prod (.int .i64) (.list (.prod (.int .i64) (.int .i64)))))).den) (k : Int) (g : Int) (r0 : Ty.InR (.list (.list (.prod (.int .i64) (.list (.prod (.int .i64) (.int .i64)))))) L) (l1 : -9223372036854775808 ≤ k) (g1 : k ≤ 9223372036854775807) (l2 : -9223372036854775808 ≤ g) (g2 : g ≤ 9223372036854775807) : Tr.all (fun r => ∃ kn, r = AV.one (.v kn (.bool true))) (.br ((bif !smB L then true else ((smL L) && (bif supE L k g != (0 : Int) then true else (((bif (↑(List.length (supL L k g)) : Int) != (↑(List.length L) : Int) then true else (bif decide ((↑(List.length (supL L k g)) : Int) > (0 : Int)) then (decide ((0 : Int) ≤ IntKind.wrap IntKind.i64 ((↑(List.length (supL L k g)) : Int) - (1 : Int))) && decide (IntKind.wrap IntKind.i64 ((↑(List.length (supL L k g)) : Int) - (1 : Int)) < (↑(List.length (supL L k g)) : Int))) else true))) && (bif bif (↑(List.length (supL L k g)) : Int) != (↑(List.length L) : Int) then true else bif decide ((↑(List.length (supL L k g)) : Int) > (0 : Int)) then (↑(List.length (el_lilii (supL L k g) (IntKind.wrap IntKind.i64 ((↑(List.length (supL L k g)) : Int) - (1 : Int))))) : Int) != (0 : Int) else false then true else ((sh_cond (L, k, g, supL L k g) (false, (0 : Int))) && (bif Nat.beq (Prod.fst (sh_g (L, k, g, supL L k g) (false, (0 : Int)))) (0 : Nat) then true else (Nat.beq (Prod.fst (sh_g (L, k, g, supL L k g) (false, (0 : Int)))) (1 : Nat)))))))))) (.ret (.one (.v false (.bool (bif !smB L then true else bif supE L k g != (0 : Int) then bif (↑(List.length (supL L k g)) : Int) == (0 : Int) then true else false else bif bif (↑(List.length (supL L k g)) : Int) != (↑(List.length L) : Int) then true else bif decide ((↑(List.length (supL L k g)) : Int) > (0 : Int)) then (↑(List.length (el_lilii (supL L k g) (IntKind.wrap IntKind.i64 ((↑(List.length (supL L k g)) : Int) - (1 : Int))))) : Int) != (0 : Int) else false then false else bif Nat.beq (Prod.fst (sh_g (L, k, g, supL L k g) (false, (0 : Int)))) (0 : Nat) then Prod.fst (Prod.snd (sh_g (L, k, g, supL L k g) (false, (0 : Int)))) else true))))) (.bad 116)) := by
  obtain ⟨K, rfl⟩ : ∃ K : List Rg, K = L := ⟨L, rfl⟩
  have sA : K.all szG = true := inr_szL r0
  cases hB : smB K
  · simp only [Bool.not_false, cond_true]
    exact ⟨fun _ => ⟨_, rfl⟩, fun h => by cases h⟩
  have hl : K.length ≤ 12 := smB_len hB
  have hm : smL K = true := smL_of hl sA
  cases he : supE K k g == (0 : Int)
  · have hb : (supE K k g != (0 : Int)) = true := by rw [bne, he]; rfl
    have hn : supL K k g = [] := by unfold supL; rw [← supE_iff hm, he]; rfl
    have z : ((([] : List Rg).length : Int) == (0 : Int)) = true := rfl
    simp only [hm, hb, hn, z, Bool.not_true, Bool.and_self, cond_true, cond_false]
    exact ⟨fun _ => ⟨_, rfl⟩, fun h => by cases h⟩
  have hb : (supE K k g != (0 : Int)) = false := by rw [bne, he]; rfl
  have hok : supOK K k g = true := by rw [← supE_iff hm, he]
  have n1 := sl_len hok
  obtain ⟨v1, v2⟩ := sh_run hok hl sA
  by_cases hp : 0 < K.length
  · have d1 : decide ((K.length : Int) > (0 : Int)) = true := decide_eq_true (by omega)
    have w : IntKind.wrap IntKind.i64 ((K.length : Int) - (1 : Int)) = ((K.length - 1 : Nat) : Int) := by rw [wid (by omega) (by omega)]; omega
    have ql : K.length - 1 < K.length := by omega
    have gl : (supL K k g).getD (K.length - 1) [] = [] := by rw [sl_get hok ql, Nat.sub_self]; rfl
    have z : ((([] : Rg).length : Int) != (0 : Int)) = false := rfl
    simp only [hm, hb, n1, d1, w, lt_t ql, nn_t, el_L, gl, z, v1, v2, Nat.beq, bne_self_eq_false, Bool.not_true, Bool.and_self, cond_true, cond_false]
    exact ⟨fun _ => ⟨_, rfl⟩, fun h => by cases h⟩
  · have d1 : decide ((K.length : Int) > (0 : Int)) = false := decide_eq_false (by omega)
    simp only [hm, hb, n1, d1, v1, v2, Nat.beq, bne_self_eq_false, Bool.not_true, Bool.and_self, cond_true, cond_false]
    exact ⟨fun _ => ⟨_, rfl⟩, fun h => by cases h⟩
set_option maxHeartbeats 4000000 in
theorem law_SupportHolds (v0 : Value) (x0 : ((.list (.list (.prod (.int .i64) (.list (.prod (.int .i64) (.int .i64)))))) : Ty).den) (r0 : Ty.InR (.list (.list (.prod (.int .i64) (.list (.prod (.int .i64) (.int .i64)))))) x0) (k : Int) (l1 : -9223372036854775808 ≤ k) (g1 : k ≤ 9223372036854775807) (g : Int) (l2 : -9223372036854775808 ≤ g) (g2 : g ≤ 9223372036854775807) (z_w : World) (i0 : (AV.one (.d false false (.list (.prod (.int .i64) (.list (.prod (.int .i64) (.int .i64))))) x0)).is [] (fun _ => none) (fun b => b < z_w.heap.size) z_w v0) : Calls Try.prog 3 #[v0, .int .i64 k, .int .i64 g] z_w fun e w' => e = .returned (.bool true) ∧ Ext z_w w' := by
  obtain ⟨L, rfl⟩ : ∃ y, y = x0 := ⟨_, rfl⟩
  refine law_of_tree (by kernel_rfl) (suH_S51_ok) (suH_L52_ok) (law_SupportHolds_tree L k g) (law_SupportHolds_all L k g r0 l1 g1 l2 g2) rfl z_w _ _ (fun _ h => h) ⟨_, _, rfl, i0, ⟨_, _, rfl, rfl, ⟨_, _, rfl, rfl, rfl⟩⟩⟩
end Go.Proofs.Ytehnepfjbaneaaa
