/-
  Layer 31: SupportClear.
-/
import Derived.Test.YtehnepfjbaneaaaProg
import Derived.Test.YtehnepfjbaneaaaFvX
import Derived.Test.YtehnepfjbaneaaaFvZ
import Derived.Test.YtehnepfjbaneaaaAut
import Derived.Test.YtehnepfjbaneaaaRd
import Derived.Test.YtehnepfjbaneaaaPl
import Derived.Test.YtehnepfjbaneaaaScn
import Derived.Test.YtehnepfjbaneaaaRegM
import Derived.Test.YtehnepfjbaneaaaMor
import Derived.Test.YtehnepfjbaneaaaRgA
import Derived.Test.YtehnepfjbaneaaaRgB
import Derived.Test.YtehnepfjbaneaaaRgC
import Derived.Test.YtehnepfjbaneaaaRgD
import Derived.Test.YtehnepfjbaneaaaMoB
import Derived.Test.YtehnepfjbaneaaaMoD
import Derived.Test.YtehnepfjbaneaaaSuA
import Derived.Test.YtehnepfjbaneaaaSuW
namespace Go.Proofs.Ytehnepfjbaneaaa
open Go
noncomputable def suC_S51 : Sums := addS 7 gTrue suA_S57
theorem suC_S51_ok : SumOK Try.prog suC_S51 := addS_ok (gTrue_ok (by kernel_rfl) (suW_S69_ok) (L0_ok _) aw7_tree) (suA_S57_ok)
abbrev sc_U : Type := (Ty.list (.list (.prod (.int .i64) (.list (.prod (.int .i64) (.int .i64)))))).den × Int × (Ty.list (.list (.prod (.int .i64) (.list (.prod (.int .i64) (.int .i64)))))).den
abbrev sc_V : Type := Bool × Int
noncomputable def sc_St (u : sc_U) (v : sc_V) : Stt := ⟨[.one (.d false false (.list (.prod (.int .i64) (.list (.prod (.int .i64) (.int .i64))))) u.1), .one .junk, .one (.v false (.int .i64 u.2.1)), .one .junk, .one .junk, .one .junk, .one (.v false (.bool v.1)), .one (.d false false (.list (.prod (.int .i64) (.list (.prod (.int .i64) (.int .i64))))) u.2.2), .one .junk, .one (.v false (.int .i64 v.2)), .one .junk, .one .junk, .one .junk, .one .junk, .one .junk, .one .junk, .one .junk, .one .junk, .one .junk, .one .junk, .one .junk, .one .junk, .one .junk, .one .junk, .one .junk, .one .junk, .one .junk, .one .junk, .one .junk, .one .junk, .one .junk, .one .junk, .one .junk, .one .junk, .one .junk, .one .junk, .one .junk, .one .junk, .one .junk, .one .junk, .one .junk, .one .junk, .one .junk, .one .junk, .one .junk, .one .junk, .one .junk, .one .junk, .one .junk, .one .junk, .one .junk, .one .junk, .one .junk, .one .junk, .one .junk, .one .junk, .one .junk, .one .junk, .one .junk, .one .junk, .one .junk, .one .junk, .one .junk, .one .junk, .one .junk, .one .junk, .one .junk, .one .junk, .one .junk, .one .junk, .one .junk, .one .junk, .one .junk, .one .junk, .one .junk, .one .junk, .one .junk, .one .junk, .one .junk], [], 1021⟩
noncomputable def sc_step (u : sc_U) (v : sc_V) : Tr (sc_V ⊕ (Nat × sc_V)) :=
  match u, v with
  | (q0, q1, q3), (q2, q4) => .br (decide (IntKind.wrap IntKind.i64 (q4 + (1 : Int)) < (↑(List.length q0) : Int))) (.br (decide ((0 : Int) ≤ q4) && decide (q4 < (↑(List.length q0) : Int))) (.br (szG (el_lilii q0 q4)) (.br (chkE (el_lilii q0 q4) q1 != (0 : Int)) (.ret (.inr (0, (false, q4)))) (.br (decide ((0 : Int) ≤ q4) && decide (q4 < (↑(List.length q3) : Int))) (.br (szG (el_lilii q3 q4) && szG (dlG (el_lilii q0 q4) q1)) (.br (szG (opR (1 : Int) (el_lilii q3 q4) (dlG (el_lilii q0 q4) q1))) (.br (cntV (opR (1 : Int) (el_lilii q3 q4) (dlG (el_lilii q0 q4) q1)) != (0 : Int)) (.ret (.inr (0, (false, q4)))) (.br (decide ((0 : Int) ≤ q4) && decide (q4 < (↑(List.length q3) : Int))) (.br (decide ((0 : Int) ≤ IntKind.wrap IntKind.i64 (q4 + (1 : Int))) && decide (IntKind.wrap IntKind.i64 (q4 + (1 : Int)) < (↑(List.length q0) : Int))) (.br (decide ((0 : Int) ≤ IntKind.wrap IntKind.i64 (q4 + (1 : Int))) && decide (IntKind.wrap IntKind.i64 (q4 + (1 : Int)) < (↑(List.length q3) : Int))) (.br (szG (el_lilii q0 (IntKind.wrap IntKind.i64 (q4 + (1 : Int)))) && szG (el_lilii q3 (IntKind.wrap IntKind.i64 (q4 + (1 : Int))))) (.br (szG (el_lilii q3 q4) && szG (opR (2 : Int) (el_lilii q0 (IntKind.wrap IntKind.i64 (q4 + (1 : Int)))) (el_lilii q3 (IntKind.wrap IntKind.i64 (q4 + (1 : Int)))))) (.br (!withinG (el_lilii q3 q4) (opR (2 : Int) (el_lilii q0 (IntKind.wrap IntKind.i64 (q4 + (1 : Int)))) (el_lilii q3 (IntKind.wrap IntKind.i64 (q4 + (1 : Int)))))) (.ret (.inr (0, (false, q4)))) (.ret (.inl (q2, IntKind.wrap IntKind.i64 (q4 + (1 : Int)))))) (.bad 900)) (.bad 900)) (.bad 29)) (.bad 29)) (.bad 29))) (.bad 900)) (.bad 900)) (.bad 29))) (.bad 900)) (.bad 29)) (.ret (.inr (1, (q2, q4))))
set_option maxRecDepth 100000 in
set_option maxHeartbeats 4000000 in
theorem sc_step_eq : ∀ (u : sc_U) (v : sc_V), (evalC Try.prog (evalB Try.prog suC_S51 (opens []) suA_L55 7).1 (evalB Try.prog suC_S51 (opens []) suA_L55 7).2 (opens []) (suA_L55 4) 100000 (0 :: [0, 1, 0, 1, 1, 1, 1, 1]) (loopOf (bodyOf Try.prog 4) [1, 1, 1, 1, 1, 0, 1, 0]) (sc_St u v) []).bind (finF [1, 3, 4, 5, 8, 10, 11, 12, 13, 14, 15, 16, 17, 18, 19, 20, 21, 22, 23, 24, 25, 26, 27, 28, 29, 30, 31, 32, 33, 34, 35, 36, 37, 38, 39, 40, 41, 42, 43, 44, 45, 46, 47, 48, 49, 50, 51, 52, 53, 54, 55, 56, 57, 58, 59, 60, 61, 62, 63, 64, 65, 66, 67, 68, 69, 70, 71, 72, 73, 74, 75, 76, 77, 78] [] [] [] 1021) = (sc_step u v).bind (outA (sc_St u) [.ret, .exit 0]) := by
  rintro ⟨q0, q1, q3⟩ ⟨q2, q4⟩
  kernel_rfl
noncomputable def sc_rd (b : Bool) (o0 : Option AV) (o2 : Option AV) (o6 : Option AV) (o7 : Option AV) (o9 : Option AV) (own : Own) : Option (sc_U × sc_V) := zrT b <| zrO o0 fun za1 => zrA1 za1 fun zc2 => zrD (.list (.prod (.int .i64) (.list (.prod (.int .i64) (.int .i64))))) zc2 fun q0 => zrO o2 fun za3 => zrA1 za3 fun zc4 => zrI .i64 zc4 fun q1 => zrO o6 fun za5 => zrA1 za5 fun zc6 => zrB zc6 fun q2 => zrO o7 fun za7 => zrA1 za7 fun zc8 => zrD (.list (.prod (.int .i64) (.list (.prod (.int .i64) (.int .i64))))) zc8 fun q3 => zrO o9 fun za9 => zrA1 za9 fun zc10 => zrI .i64 zc10 fun q4 => zrN own <| some ((q0, q1, q3), (q2, q4))
noncomputable def sc_can (st : Stt) : Stt := canA [1, 3, 4, 5, 8, 10, 11, 12, 13, 14, 15, 16, 17, 18, 19, 20, 21, 22, 23, 24, 25, 26, 27, 28, 29, 30, 31, 32, 33, 34, 35, 36, 37, 38, 39, 40, 41, 42, 43, 44, 45, 46, 47, 48, 49, 50, 51, 52, 53, 54, 55, 56, 57, 58, 59, 60, 61, 62, 63, 64, 65, 66, 67, 68, 69, 70, 71, 72, 73, 74, 75, 76, 77, 78] [] [] [] 1021 st
noncomputable def sc_cok (st : Stt) : Bool := canAok [1, 3, 4, 5, 8, 10, 11, 12, 13, 14, 15, 16, 17, 18, 19, 20, 21, 22, 23, 24, 25, 26, 27, 28, 29, 30, 31, 32, 33, 34, 35, 36, 37, 38, 39, 40, 41, 42, 43, 44, 45, 46, 47, 48, 49, 50, 51, 52, 53, 54, 55, 56, 57, 58, 59, 60, 61, 62, 63, 64, 65, 66, 67, 68, 69, 70, 71, 72, 73, 74, 75, 76, 77, 78] [] [] [] 1021 st
noncomputable def sc_read (st : Stt) : Option (sc_U × sc_V) := sc_rd (sc_cok st && (staysA [] [] st.own && juAll [1, 3, 4, 5, 8, 10, 11, 12, 13, 14, 15, 16, 17, 18, 19, 20, 21, 22, 23, 24, 25, 26, 27, 28, 29, 30, 31, 32, 33, 34, 35, 36, 37, 38, 39, 40, 41, 42, 43, 44, 45, 46, 47, 48, 49, 50, 51, 52, 53, 54, 55, 56, 57, 58, 59, 60, 61, 62, 63, 64, 65, 66, 67, 68, 69, 70, 71, 72, 73, 74, 75, 76, 77, 78] (sc_can st).tm 79)) (sc_can st).tm[0]? (sc_can st).tm[2]? (sc_can st).tm[6]? (sc_can st).tm[7]? (sc_can st).tm[9]? (sc_can st).own
set_option maxRecDepth 100000 in
set_option maxHeartbeats 4000000 in
theorem sc_rd_ok {b : Bool} {tm : List AV} {own : Own} {u : sc_U} {v : sc_V} (hj : b = true → juAll [1, 3, 4, 5, 8, 10, 11, 12, 13, 14, 15, 16, 17, 18, 19, 20, 21, 22, 23, 24, 25, 26, 27, 28, 29, 30, 31, 32, 33, 34, 35, 36, 37, 38, 39, 40, 41, 42, 43, 44, 45, 46, 47, 48, 49, 50, 51, 52, 53, 54, 55, 56, 57, 58, 59, 60, 61, 62, 63, 64, 65, 66, 67, 68, 69, 70, 71, 72, 73, 74, 75, 76, 77, 78] tm 79 = true) (h : sc_rd b tm[0]? tm[2]? tm[6]? tm[7]? tm[9]? own = some (u, v)) : b = true ∧ tm = (sc_St u v).tm ∧ own = (sc_St u v).own := by
  unfold sc_rd at h
  obtain ⟨rfl, h0⟩ := zrT_some h
  obtain ⟨za1, e0, h1⟩ := zrO_some h0
  obtain ⟨zc2, rfl, h2⟩ := zrA1_some h1
  obtain ⟨q0, rfl, h3⟩ := zrD_some h2
  obtain ⟨za3, e2, h4⟩ := zrO_some h3
  obtain ⟨zc4, rfl, h5⟩ := zrA1_some h4
  obtain ⟨q1, rfl, h6⟩ := zrI_some h5
  obtain ⟨za5, e6, h7⟩ := zrO_some h6
  obtain ⟨zc6, rfl, h8⟩ := zrA1_some h7
  obtain ⟨q2, rfl, h9⟩ := zrB_some h8
  obtain ⟨za7, e7, h10⟩ := zrO_some h9
  obtain ⟨zc8, rfl, h11⟩ := zrA1_some h10
  obtain ⟨q3, rfl, h12⟩ := zrD_some h11
  obtain ⟨za9, e9, h13⟩ := zrO_some h12
  obtain ⟨zc10, rfl, h14⟩ := zrA1_some h13
  obtain ⟨q4, rfl, h15⟩ := zrI_some h14
  obtain ⟨rfl, h16⟩ := zrN_some h15
  have h := Option.some.inj h16
  have hu := congrArg Prod.fst h
  have hv := congrArg Prod.snd h
  dsimp only at hu hv
  subst hu
  subst hv
  exact ⟨rfl, (tm_fill (hj rfl) (Lv := [(0, .one (.d false false (.list (.prod (.int .i64) (.list (.prod (.int .i64) (.int .i64))))) q0)), (2, .one (.v false (.int .i64 q1))), (6, .one (.v false (.bool q2))), (7, .one (.d false false (.list (.prod (.int .i64) (.list (.prod (.int .i64) (.int .i64))))) q3)), (9, .one (.v false (.int .i64 q4)))]) (by kernel_rfl) ⟨e0, e2, e6, e7, e9, trivial⟩).trans (by kernel_rfl), rfl⟩
theorem sc_read_ok (st : Stt) (u : sc_U) (v : sc_V) (h : sc_read st = some (u, v)) : sc_cok st = true ∧ staysA [] [] st.own = true ∧ sc_can st = sc_St u v := by
  obtain ⟨h1, h2, h3⟩ := sc_rd_ok (fun hb => by rw [Bool.and_eq_true, Bool.and_eq_true] at hb; exact hb.2.2) h
  rw [Bool.and_eq_true, Bool.and_eq_true] at h1
  refine ⟨h1.1, h1.2.1, ?_⟩
  have e : sc_can st = ⟨(sc_can st).tm, (sc_can st).own, 1021⟩ := by kernel_rfl
  rw [e, h2, h3]
  rfl
noncomputable def sc_cond (u : sc_U) (v : sc_V) : Bool := runC (sc_step u) v
noncomputable def sc_g (u : sc_U) (v : sc_V) : Nat × sc_V := runG (sc_step u) v
theorem sc_hg : ∀ (u : sc_U) (v : sc_V), sc_cond u v = true → loopN (sc_step u) ((fun u v => runF (sc_step u) v) u v) v = some (sc_g u v) := by
  exact fun u v h => run_hg h
noncomputable def sc_m (st : Stt) : Option (Tr (Ex × Stt)) := sumM sc_read sc_cond sc_St sc_g [(0, .ret), (1, .exit 0)] st
noncomputable def suC_L52 : FuncId → Loops := addL 4 [0, 1, 0, 1, 1, 1, 1, 1] sc_m suA_L55
set_option maxRecDepth 100000 in
set_option maxHeartbeats 4000000 in
theorem suC_L52_ok : LoopsOK Try.prog suC_L52 :=
  loop_sumF (body := (bodyOf Try.prog 4)) (c := (loopOf (bodyOf Try.prog 4) [1, 1, 1, 1, 1, 0, 1, 0])) (kinds := [.ret, .exit 0]) (allow := [(0, .ret), (1, .exit 0)]) (St := sc_St) (step := sc_step) (W := [1, 3, 4, 5, 8, 10, 11, 12, 13, 14, 15, 16, 17, 18, 19, 20, 21, 22, 23, 24, 25, 26, 27, 28, 29, 30, 31, 32, 33, 34, 35, 36, 37, 38, 39, 40, 41, 42, 43, 44, 45, 46, 47, 48, 49, 50, 51, 52, 53, 54, 55, 56, 57, 58, 59, 60, 61, 62, 63, 64, 65, 66, 67, 68, 69, 70, 71, 72, 73, 74, 75, 76, 77, 78]) (As := []) (ks := []) (dd := []) (nx := 1021) (n := 100000) (g := sc_g) (cond := sc_cond) (fuel := (fun u v => runF (sc_step u) v)) (read := sc_read) (by kernel_rfl) (suC_S51_ok) (suA_L55_ok) 7 ⟨Try.f4, by kernel_rfl, by kernel_rfl⟩ (by kernel_rfl) (by kernel_rfl) (by kernel_rfl) sc_step_eq sc_hg sc_read_ok
theorem inr_sz {R : Rg} (r : Ty.InR (.list (.prod (.int .i64) (.list (.prod (.int .i64) (.int .i64))))) R) : szG R = true := by
  unfold szG
  have h1 : R.length ≤ maxLen := r.1
  have h2 : ∀ x ∈ R, x.2.length ≤ maxLen := fun x hx => (r.2 x hx).2.1
  unfold maxLen at h1 h2
  rw [Bool.and_eq_true, decide_eq_true_eq, List.all_eq_true]
  exact ⟨by omega, fun x hx => decide_eq_true (by have := h2 x hx; omega)⟩
theorem inr_szL {L : List Rg} (r : Ty.InR (.list (.list (.prod (.int .i64) (.list (.prod (.int .i64) (.int .i64)))))) L) : L.all szG = true := List.all_eq_true.2 fun x hx => inr_sz (r.2 x hx)
theorem smB_len {L : List Rg} (h : smB L = true) : L.length ≤ 12 := of_decide_eq_true (Bool.and_eq_true _ _ ▸ h).1
theorem smL_of {L : List Rg} (h : L.length ≤ 12) (s : L.all szG = true) : smL L = true := by unfold smL; rw [decide_eq_true h, s]; rfl
theorem sl_eq {L : List Rg} {k g : Int} (h : supOK L k g = true) : supL L k g = tab L.length fun p => supT L k g (L.length - 1 - p) := by unfold supL; rw [h]; rfl
theorem sl_len {L : List Rg} {k g : Int} (h : supOK L k g = true) : (supL L k g).length = L.length := by rw [sl_eq h, tab_length]
theorem sl_get {L : List Rg} {k g : Int} (h : supOK L k g = true) {i : Nat} (hi : i < L.length) : (supL L k g).getD i [] = supT L k g (L.length - 1 - i) := by rw [sl_eq h, tab_getD _ hi]
theorem all_val {L : List Rg} (ha : L.all valGB = true) (i : Nat) : valG (L.getD i []) := by
  rw [List.getD_eq_getElem?_getD]
  cases e : L[i]? with
  | none => exact valG_nil
  | some r => exact valGB_iff.1 (List.all_eq_true.1 ha r (List.mem_of_getElem? e))
theorem sz_all (L : List Rg) (s : L.all szG = true) (i : Nat) : szG (L.getD i []) = true := by
  rw [List.getD_eq_getElem?_getD]
  cases e : L[i]? with
  | none => rfl
  | some r => exact List.all_eq_true.1 s r (List.mem_of_getElem? e)
theorem szT (L : List Rg) (k g : Int) (j : Nat) : szG (supT L k g j) = true := val_sz (sup_val L k g j)
theorem szD (R : Rg) (k : Int) : szG (dlG R k) = true := val_sz (dl_val R k)
theorem szO (an : Int) (A B : Rg) : szG (opR an A B) = true := val_sz (opR_val an A B)
theorem szV (A B : Rg) (k : Int) : szG (ovG A B k) = true := val_sz (ov_val A B k)
theorem sc_run {L : List Rg} {k g : Int} (h : supOK L k g = true) (hn : L.length ≤ 12) (hs : L.all szG = true) : sc_cond (L, g, supL L k g) (false, 0) = true ∧ (sc_g (L, g, supL L k g) (false, 0)).1 = 1 := by
  obtain ⟨_, _, ha, hc⟩ := supOK_iff.1 h
  have hv := all_val ha
  have nl := sl_len h
  have R1 := run_steps (step := sc_step (L, g, supL L k g)) (St := fun j => (false, (j : Int))) (n := L.length - 1) (t := (1, (false, ((L.length - 1 : Nat) : Int)))) (by
    have w : IntKind.wrap IntKind.i64 (((L.length - 1 : Nat) : Int) + (1 : Int)) = ((L.length - 1 + 1 : Nat) : Int) := by rw [wid (by omega) (by omega)]; omega
    have d : decide (((L.length - 1 + 1 : Nat) : Int) < (L.length : Int)) = false := decide_eq_false (by omega)
    simp only [sc_step, Tr.val, w, d, cond_false]) (L.length - 1) 0 (Nat.zero_add _) (fun j _ hj => by
    have w : IntKind.wrap IntKind.i64 ((j : Int) + (1 : Int)) = ((j + 1 : Nat) : Int) := by rw [wid (by omega) (by omega)]; omega
    have q1 : j + 1 < L.length := by omega
    have q0 : j < L.length := by omega
    have p1 : j + 1 < (supL L k g).length := by omega
    have p0 : j < (supL L k g).length := by omega
    obtain ⟨_, c2⟩ := hc j q1
    have e1 : L.length - 1 - (L.length - 2 - j) = j + 1 := by omega
    have e2 : L.length - 2 - (L.length - 2 - j) = j := by omega
    have g0 : (supL L k g).getD j [] = supT L k g (L.length - 2 - j + 1) := by rw [sl_get h q0, show L.length - 1 - j = L.length - 2 - j + 1 by omega]
    have g1 : (supL L k g).getD (j + 1) [] = supT L k g (L.length - 2 - j) := by rw [sl_get h q1, show L.length - 1 - (j + 1) = L.length - 2 - j by omega]
    have hw := clear_in (L := L) (k := k) (g := g) (j := L.length - 2 - j) (hv _)
    have hz := clear_law (L := L) (k := k) (g := g) (j := L.length - 2 - j) (hv _)
    rw [e1] at hw
    rw [e2] at hz
    have cz : (cntV [] != (0 : Int)) = false := by unfold cntV; rw [valGB_t valG_nil]; rfl
    have sn : szG [] = true := rfl
    simp only [sc_step, Tr.val, w, lt_t q1, lt_t q0, lt_t p1, lt_t p0, nn_t, el_L, sz_all L hs, c2, g0, g1, szT, szD, szO, hz, cz, sn, hw, bne_self_eq_false, Bool.not_true, Bool.and_self, cond_true, cond_false])
  exact ⟨R1.1, by rw [show sc_g (L, g, supL L k g) (false, 0) = _ from R1.2]⟩
set_option maxRecDepth 100000 in
theorem law_SupportClear_tree (L : (Ty.list (.list (.prod (.int .i64) (.list (.prod (.int .i64) (.int .i64)))))).den) (k : Int) (g : Int) : evalF Try.prog suC_S51 (opens []) suC_L52 9 4 [.one (.d false false (.list (.prod (.int .i64) (.list (.prod (.int .i64) (.int .i64))))) L), .one (.v false (.int .i64 k)), .one (.v false (.int .i64 g))] = .br ((bif !smB L then true else ((smL L) && (bif supE L k g != (0 : Int) then true else (bif (↑(List.length (supL L k g)) : Int) != (↑(List.length L) : Int) then true else ((sc_cond (L, g, supL L k g) (false, (0 : Int))) && (bif Nat.beq (Prod.fst (sc_g (L, g, supL L k g) (false, (0 : Int)))) (0 : Nat) then true else (Nat.beq (Prod.fst (sc_g (L, g, supL L k g) (false, (0 : Int)))) (1 : Nat))))))))) (.ret (.one (.v false (.bool (bif !smB L then true else bif supE L k g != (0 : Int) then true else bif (↑(List.length (supL L k g)) : Int) != (↑(List.length L) : Int) then false else bif Nat.beq (Prod.fst (sc_g (L, g, supL L k g) (false, (0 : Int)))) (0 : Nat) then Prod.fst (Prod.snd (sc_g (L, g, supL L k g) (false, (0 : Int)))) else true))))) (.bad 116) := by kernel_rfl
set_option maxHeartbeats 4000000 in
theorem law_SupportClear_all (L : (Ty.list (.list (.prod (.int .i64) (.list (.prod (.int .i64) (.int .i64)))))).den) (k : Int) (g : Int) (r0 : Ty.InR (.list (.list (.prod (.int .i64) (.list (.prod (.int .i64) (.int .i64)))))) L) (l1 : -9223372036854775808 ≤ k) (g1 : k ≤ 9223372036854775807) (l2 : -9223372036854775808 ≤ g) (g2 : g ≤ 9223372036854775807) : Tr.all (fun r => ∃ kn, r = AV.one (.v kn (.bool true))) (.br ((bif !smB L then true else ((smL L) && (bif supE L k g != (0 : Int) then true else (bif (↑(List.length (supL L k g)) : Int) != (↑(List.length L) : Int) then true else ((sc_cond (L, g, supL L k g) (false, (0 : Int))) && (bif Nat.beq (Prod.fst (sc_g (L, g, supL L k g) (false, (0 : Int)))) (0 : Nat) then true else (Nat.beq (Prod.fst (sc_g (L, g, supL L k g) (false, (0 : Int)))) (1 : Nat))))))))) (.ret (.one (.v false (.bool (bif !smB L then true else bif supE L k g != (0 : Int) then true else bif (↑(List.length (supL L k g)) : Int) != (↑(List.length L) : Int) then false else bif Nat.beq (Prod.fst (sc_g (L, g, supL L k g) (false, (0 : Int)))) (0 : Nat) then Prod.fst (Prod.snd (sc_g (L, g, supL L k g) (false, (0 : Int)))) else true))))) (.bad 116)) := by
  obtain ⟨K, rfl⟩ : ∃ K : List Rg, K = L := ⟨L, rfl⟩
  have sA : K.all szG = true := inr_szL r0
  cases hB : smB K
  · simp only [Bool.not_false, cond_true]
    exact ⟨fun _ => ⟨_, rfl⟩, fun h => by cases h⟩
  have hl : K.length ≤ 12 := smB_len hB
  have hm : smL K = true := smL_of hl sA
  cases he : supE K k g == (0 : Int)
  · have hb : (supE K k g != (0 : Int)) = true := by rw [bne, he]; rfl
    simp only [hm, hb, Bool.not_true, Bool.and_self, cond_true, cond_false]
    exact ⟨fun _ => ⟨_, rfl⟩, fun h => by cases h⟩
  have hb : (supE K k g != (0 : Int)) = false := by rw [bne, he]; rfl
  have hok : supOK K k g = true := by rw [← supE_iff hm, he]
  have n1 := sl_len hok
  obtain ⟨v1, v2⟩ := sc_run hok hl sA
  simp only [hm, hb, n1, v1, v2, Nat.beq, bne_self_eq_false, Bool.not_true, Bool.and_self, cond_true, cond_false]
  exact ⟨fun _ => ⟨_, rfl⟩, fun h => by cases h⟩
set_option maxHeartbeats 4000000 in
theorem law_SupportClear (v0 : Value) (x0 : ((.list (.list (.prod (.int .i64) (.list (.prod (.int .i64) (.int .i64)))))) : Ty).den) (r0 : Ty.InR (.list (.list (.prod (.int .i64) (.list (.prod (.int .i64) (.int .i64)))))) x0) (k : Int) (l1 : -9223372036854775808 ≤ k) (g1 : k ≤ 9223372036854775807) (g : Int) (l2 : -9223372036854775808 ≤ g) (g2 : g ≤ 9223372036854775807) (z_w : World) (i0 : (AV.one (.d false false (.list (.prod (.int .i64) (.list (.prod (.int .i64) (.int .i64))))) x0)).is [] (fun _ => none) (fun b => b < z_w.heap.size) z_w v0) : Calls Try.prog 4 #[v0, .int .i64 k, .int .i64 g] z_w fun e w' => e = .returned (.bool true) ∧ Ext z_w w' := by
  obtain ⟨L, rfl⟩ : ∃ y, y = x0 := ⟨_, rfl⟩
  refine law_of_tree (by kernel_rfl) (suC_S51_ok) (suC_L52_ok) (law_SupportClear_tree L k g) (law_SupportClear_all L k g r0 l1 g1 l2 g2) rfl z_w _ _ (fun _ h => h) ⟨_, _, rfl, i0, ⟨_, _, rfl, rfl, ⟨_, _, rfl, rfl, rfl⟩⟩⟩
end Go.Proofs.Ytehnepfjbaneaaa
