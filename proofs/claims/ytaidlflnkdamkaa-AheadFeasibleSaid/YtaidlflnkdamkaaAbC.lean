/-
  Layer 44: contracts of choose; IndexFunc, Min.
-/
import Derived.Test.YtaidlflnkdamkaaProg
import Derived.Test.YtaidlflnkdamkaaFvX
import Derived.Test.YtaidlflnkdamkaaFvZ
import Derived.Test.YtaidlflnkdamkaaAut
import Derived.Test.YtaidlflnkdamkaaAbA
import Derived.Test.YtaidlflnkdamkaaAbB
import Derived.Test.YtaidlflnkdamkaaAbM
import Derived.Test.YtaidlflnkdamkaaAbN
namespace Go.Proofs.Ytaidlflnkdamkaa
open Go
noncomputable def chOk (L : BkL) (C : List Int) (e : Int) : Bool := @decide (ChOk L C e) (Classical.propDecidable _)
def chosen (L : BkL) (C : List Int) (e : Int) : List Int := tab (L.length + 1) (sS L.length (mO L C e L.length) (rO L))
set_option maxRecDepth 100000 in
theorem choo_tree (L : (Ty.list (.prod (.prod (.int .i64) (.prod (.int .i64) (.prod (.int .i64) (.int .i64)))) (.prod (.int .i64) (.prod (.int .i64) (.prod (.int .i64) (.int .i64)))))).den) (C : (Ty.list (.int .i64)).den) (e : Int) : evalF Try.prog abA_S12 (opens []) abB_L63 9 46 [.one (.d false false (.prod (.prod (.int .i64) (.prod (.int .i64) (.prod (.int .i64) (.int .i64)))) (.prod (.int .i64) (.prod (.int .i64) (.prod (.int .i64) (.int .i64))))) L), .one (.d false false (.int .i64) C), .one (.v false (.int .i64 e))] = .br (((decide ((0 : Int) ≤ IntKind.wrap IntKind.i64 (↑(List.length L) + (1 : Int))) && decide (IntKind.wrap IntKind.i64 (↑(List.length L) + (1 : Int)) ≤ IntKind.wrap IntKind.i64 (↑(List.length L) + (1 : Int))) && decide (↑(8 : Nat) * IntKind.wrap IntKind.i64 (↑(List.length L) + (1 : Int)) ≤ (281474976710656 : Int)) && decide (IntKind.wrap IntKind.i64 (↑(List.length L) + (1 : Int)) ≤ (9223372036854775807 : Int))) && ((decide ((0 : Int) ≤ (0 : Int)) && decide ((0 : Int) < ↑(List.length (List.replicate (Int.toNat (IntKind.wrap IntKind.i64 (↑(List.length L) + (1 : Int)))) (0 : Int))))) && ((decide (Int.toNat (0 : Int) < List.length (List.replicate (Int.toNat (IntKind.wrap IntKind.i64 (↑(List.length L) + (1 : Int)))) (0 : Int)))) && ((cho0_cond (L, C) ((1 : Int), List.set (List.replicate (Int.toNat (IntKind.wrap IntKind.i64 (↑(List.length L) + (1 : Int)))) (0 : Int)) (Int.toNat (0 : Int)) e)) && ((Nat.beq (Prod.fst (cho0_g (L, C) ((1 : Int), List.set (List.replicate (Int.toNat (IntKind.wrap IntKind.i64 (↑(List.length L) + (1 : Int)))) (0 : Int)) (Int.toNat (0 : Int)) e))) (0 : Nat)) && ((cho1_cond L (IntKind.wrap IntKind.i64 (↑(List.length L) - (1 : Int)), Prod.snd (Prod.snd (cho0_g (L, C) ((1 : Int), List.set (List.replicate (Int.toNat (IntKind.wrap IntKind.i64 (↑(List.length L) + (1 : Int)))) (0 : Int)) (Int.toNat (0 : Int)) e))))) && ((Nat.beq (Prod.fst (cho1_g L (IntKind.wrap IntKind.i64 (↑(List.length L) - (1 : Int)), Prod.snd (Prod.snd (cho0_g (L, C) ((1 : Int), List.set (List.replicate (Int.toNat (IntKind.wrap IntKind.i64 (↑(List.length L) + (1 : Int)))) (0 : Int)) (Int.toNat (0 : Int)) e)))))) (0 : Nat)) && ((cho2_cond (L, ↑(List.length L)) ((0 : Int), Prod.snd (Prod.snd (cho1_g L (IntKind.wrap IntKind.i64 (↑(List.length L) - (1 : Int)), Prod.snd (Prod.snd (cho0_g (L, C) ((1 : Int), List.set (List.replicate (Int.toNat (IntKind.wrap IntKind.i64 (↑(List.length L) + (1 : Int)))) (0 : Int)) (Int.toNat (0 : Int)) e)))))))) && (Nat.beq (Prod.fst (cho2_g (L, ↑(List.length L)) ((0 : Int), Prod.snd (Prod.snd (cho1_g L (IntKind.wrap IntKind.i64 (↑(List.length L) - (1 : Int)), Prod.snd (Prod.snd (cho0_g (L, C) ((1 : Int), List.set (List.replicate (Int.toNat (IntKind.wrap IntKind.i64 (↑(List.length L) + (1 : Int)))) (0 : Int)) (Int.toNat (0 : Int)) e))))))))) (0 : Nat))))))))))) (.ret (.one (.d false false (.int .i64) (Prod.snd (Prod.snd (cho2_g (L, ↑(List.length L)) ((0 : Int), Prod.snd (Prod.snd (cho1_g L (IntKind.wrap IntKind.i64 (↑(List.length L) - (1 : Int)), Prod.snd (Prod.snd (cho0_g (L, C) ((1 : Int), List.set (List.replicate (Int.toNat (IntKind.wrap IntKind.i64 (↑(List.length L) + (1 : Int)))) (0 : Int)) (Int.toNat (0 : Int)) e))))))))))))) (.bad 116) := by kernel_rfl
theorem choo_val (L : (Ty.list (.prod (.prod (.int .i64) (.prod (.int .i64) (.prod (.int .i64) (.int .i64)))) (.prod (.int .i64) (.prod (.int .i64) (.prod (.int .i64) (.int .i64)))))).den) (C : (Ty.list (.int .i64)).den) (e : Int) (hc : (chOk L C e) = true) : (.br (((decide ((0 : Int) ≤ IntKind.wrap IntKind.i64 (↑(List.length L) + (1 : Int))) && decide (IntKind.wrap IntKind.i64 (↑(List.length L) + (1 : Int)) ≤ IntKind.wrap IntKind.i64 (↑(List.length L) + (1 : Int))) && decide (↑(8 : Nat) * IntKind.wrap IntKind.i64 (↑(List.length L) + (1 : Int)) ≤ (281474976710656 : Int)) && decide (IntKind.wrap IntKind.i64 (↑(List.length L) + (1 : Int)) ≤ (9223372036854775807 : Int))) && ((decide ((0 : Int) ≤ (0 : Int)) && decide ((0 : Int) < ↑(List.length (List.replicate (Int.toNat (IntKind.wrap IntKind.i64 (↑(List.length L) + (1 : Int)))) (0 : Int))))) && ((decide (Int.toNat (0 : Int) < List.length (List.replicate (Int.toNat (IntKind.wrap IntKind.i64 (↑(List.length L) + (1 : Int)))) (0 : Int)))) && ((cho0_cond (L, C) ((1 : Int), List.set (List.replicate (Int.toNat (IntKind.wrap IntKind.i64 (↑(List.length L) + (1 : Int)))) (0 : Int)) (Int.toNat (0 : Int)) e)) && ((Nat.beq (Prod.fst (cho0_g (L, C) ((1 : Int), List.set (List.replicate (Int.toNat (IntKind.wrap IntKind.i64 (↑(List.length L) + (1 : Int)))) (0 : Int)) (Int.toNat (0 : Int)) e))) (0 : Nat)) && ((cho1_cond L (IntKind.wrap IntKind.i64 (↑(List.length L) - (1 : Int)), Prod.snd (Prod.snd (cho0_g (L, C) ((1 : Int), List.set (List.replicate (Int.toNat (IntKind.wrap IntKind.i64 (↑(List.length L) + (1 : Int)))) (0 : Int)) (Int.toNat (0 : Int)) e))))) && ((Nat.beq (Prod.fst (cho1_g L (IntKind.wrap IntKind.i64 (↑(List.length L) - (1 : Int)), Prod.snd (Prod.snd (cho0_g (L, C) ((1 : Int), List.set (List.replicate (Int.toNat (IntKind.wrap IntKind.i64 (↑(List.length L) + (1 : Int)))) (0 : Int)) (Int.toNat (0 : Int)) e)))))) (0 : Nat)) && ((cho2_cond (L, ↑(List.length L)) ((0 : Int), Prod.snd (Prod.snd (cho1_g L (IntKind.wrap IntKind.i64 (↑(List.length L) - (1 : Int)), Prod.snd (Prod.snd (cho0_g (L, C) ((1 : Int), List.set (List.replicate (Int.toNat (IntKind.wrap IntKind.i64 (↑(List.length L) + (1 : Int)))) (0 : Int)) (Int.toNat (0 : Int)) e)))))))) && (Nat.beq (Prod.fst (cho2_g (L, ↑(List.length L)) ((0 : Int), Prod.snd (Prod.snd (cho1_g L (IntKind.wrap IntKind.i64 (↑(List.length L) - (1 : Int)), Prod.snd (Prod.snd (cho0_g (L, C) ((1 : Int), List.set (List.replicate (Int.toNat (IntKind.wrap IntKind.i64 (↑(List.length L) + (1 : Int)))) (0 : Int)) (Int.toNat (0 : Int)) e))))))))) (0 : Nat))))))))))) (.ret (.one (.d false false (.int .i64) (Prod.snd (Prod.snd (cho2_g (L, ↑(List.length L)) ((0 : Int), Prod.snd (Prod.snd (cho1_g L (IntKind.wrap IntKind.i64 (↑(List.length L) - (1 : Int)), Prod.snd (Prod.snd (cho0_g (L, C) ((1 : Int), List.set (List.replicate (Int.toNat (IntKind.wrap IntKind.i64 (↑(List.length L) + (1 : Int)))) (0 : Int)) (Int.toNat (0 : Int)) e))))))))))))) (.bad 116) : Tr AV).val = some (.one (.d false false (.int .i64) (chosen L C e))) := by
  have h : ChOk L C e := @of_decide_eq_true _ (Classical.propDecidable _) hc
  have n1 := h.n1
  have n40 := h.n40
  have w1 : IntKind.wrap IntKind.i64 ((L.length : Int) + (1 : Int)) = ((L.length + 1 : Nat) : Int) := by rw [wid (by omega) (by omega)]; omega
  have w2 : IntKind.wrap IntKind.i64 ((L.length : Int) - (1 : Int)) = (L.length : Int) - 1 := wid (by omega) (by omega)
  have t0 : List.set (List.replicate (L.length + 1) (0 : Int)) (Int.toNat (0 : Int)) e = tab (L.length + 1) (fun i => if i < 1 then mO L C e L.length i else 0) := by
    rw [tab_rep, tab_set]
    refine tab_congr fun i hi => ?_
    by_cases h0 : i = 0
    · subst h0; rfl
    · rw [if_neg (by simpa using h0), if_neg (by omega)]
  have a0 : cho0_cond (L, C) ((1 : Int), tab (L.length + 1) (fun i => if i < 1 then mO L C e L.length i else 0)) = true := (cho0_run h).1
  have a1 : cho0_g (L, C) ((1 : Int), tab (L.length + 1) (fun i => if i < 1 then mO L C e L.length i else 0)) = _ := (cho0_run h).2
  have b0 : cho1_cond L (((L.length : Int) - 1), tab (L.length + 1) (mO L C e L.length)) = true := (cho1_run h).1
  have b1 : cho1_g L (((L.length : Int) - 1), tab (L.length + 1) (mO L C e L.length)) = _ := (cho1_run h).2
  have d0 : cho2_cond (L, (L.length : Int)) ((0 : Int), tab (L.length + 1) (bB L.length (mO L C e L.length) (rO L))) = true := (cho2_run h).1
  have d1 : cho2_g (L, (L.length : Int)) ((0 : Int), tab (L.length + 1) (bB L.length (mO L C e L.length) (rO L))) = _ := (cho2_run h).2
  have z0 : Nat.beq 0 0 = true := rfl
  have e1 : (decide ((0 : Int) ≤ ((L.length + 1 : Nat) : Int)) && decide (((L.length + 1 : Nat) : Int) ≤ ((L.length + 1 : Nat) : Int)) && decide (((8 : Nat) : Int) * ((L.length + 1 : Nat) : Int) ≤ (281474976710656 : Int)) && decide (((L.length + 1 : Nat) : Int) ≤ (9223372036854775807 : Int))) = true := by
    simp only [Bool.and_eq_true, decide_eq_true_eq]; omega
  have e2 : (decide ((0 : Int) ≤ (0 : Int)) && decide ((0 : Int) < ((L.length + 1 : Nat) : Int))) = true := by simp only [Bool.and_eq_true, decide_eq_true_eq]; omega
  have e3 : decide (Int.toNat (0 : Int) < L.length + 1) = true := by simp
  have t1 : Int.toNat ((L.length + 1 : Nat) : Int) = L.length + 1 := rfl
  simp only [w1, w2, t1, List.length_replicate, t0, a0, a1, b0, b1, d0, d1, z0, e1, e2, e3, Bool.and_self, Tr.val, cond_true]
  rfl
noncomputable def choo_g : List AV → Option (Tr AV)
  | [.one (.d _ _ (.prod (.prod (.int .i64) (.prod (.int .i64) (.prod (.int .i64) (.int .i64)))) (.prod (.int .i64) (.prod (.int .i64) (.prod (.int .i64) (.int .i64))))) L), .one (.d _ _ (.int .i64) C), .one (.v _ (.int .i64 e))] => some (.br (chOk L C e) (.ret (.one (.d false false (.int .i64) (chosen L C e)))) (.bad 900))
  | _ => none
set_option maxHeartbeats 4000000 in
theorem choo_ok : FunOK Try.prog 46 choo_g := by
  refine fun_ok (by kernel_rfl) (abA_S12_ok) (abB_L63_ok) 9 (On := (opens [])) (fun args t h => ?_)
  unfold choo_g at h
  split at h
  · rename_i _ _ L _ _ C _ e
    simp only [Option.some.injEq] at h
    subst h
    refine ⟨[.one (.d false false (.prod (.prod (.int .i64) (.prod (.int .i64) (.prod (.int .i64) (.int .i64)))) (.prod (.int .i64) (.prod (.int .i64) (.prod (.int .i64) (.int .i64))))) L), .one (.d false false (.int .i64) C), .one (.v false (.int .i64 e))], rfl, fun fr w us h => h, fun r hr => ?_⟩
    obtain ⟨hc, hr⟩ := br_bad hr
    simp only [Tr.val, Option.some.injEq] at hr
    subst hr
    rw [choo_tree]
    exact choo_val L C e hc
  · cases h
noncomputable def abC_S61 : Sums := addS 46 choo_g abA_S12
theorem abC_S61_ok : SumOK Try.prog abC_S61 := addS_ok (choo_ok) (abA_S12_ok)
abbrev ix1_U : Type := (Ty.list (.prod (.prod (.int .i64) (.prod (.int .i64) (.prod (.int .i64) (.int .i64)))) (.prod (.int .i64) (.prod (.int .i64) (.prod (.int .i64) (.int .i64)))))).den × Int
abbrev ix1_V : Type := Int × Int
def ix1_St (u : ix1_U) (v : ix1_V) : Stt := ⟨[.one (.d false false (.prod (.prod (.int .i64) (.prod (.int .i64) (.prod (.int .i64) (.int .i64)))) (.prod (.int .i64) (.prod (.int .i64) (.prod (.int .i64) (.int .i64))))) u.1), .one (.fn 40 []), .one .junk, .one .junk, .one (.v false (.int .i64 v.1)), .one .junk, .one .junk, .one (.v false (.int .i64 u.2)), .one (.v false (.int .i64 v.2)), .one .junk, .one .junk, .one .junk, .one .junk, .one .junk, .one .junk, .one .junk, .one .junk, .one .junk, .one .junk], [], 1004⟩
def ix1_step (u : ix1_U) (v : ix1_V) : Tr (ix1_V ⊕ (Nat × ix1_V)) :=
  match u, v with
  | (q0, q2), (q1, q3) => .br (decide (q3 < q2)) (.br (decide ((0 : Int) ≤ q3) && decide (q3 < ↑(List.length q0))) (.br (!bval (Prod.fst (Prod.fst (el_iiiiiiii q0 q3))) (Prod.fst (Prod.snd (Prod.fst (el_iiiiiiii q0 q3)))) (Prod.fst (Prod.snd (Prod.snd (Prod.fst (el_iiiiiiii q0 q3))))) (Prod.snd (Prod.snd (Prod.snd (Prod.fst (el_iiiiiiii q0 q3))))) (Prod.fst (Prod.snd (el_iiiiiiii q0 q3))) (Prod.fst (Prod.snd (Prod.snd (el_iiiiiiii q0 q3)))) (Prod.fst (Prod.snd (Prod.snd (Prod.snd (el_iiiiiiii q0 q3))))) (Prod.snd (Prod.snd (Prod.snd (Prod.snd (el_iiiiiiii q0 q3)))))) (.ret (.inr (0, (q3, q3)))) (.ret (.inl (q1, IntKind.wrap IntKind.i64 (q3 + (1 : Int)))))) (.bad 29)) (.ret (.inr (1, (q1, q3))))
set_option maxRecDepth 100000 in
set_option maxHeartbeats 4000000 in
theorem ix1_step_eq : ∀ (u : ix1_U) (v : ix1_V), (evalC Try.prog (evalB Try.prog abC_S61 (opens []) abB_L63 7).1 (evalB Try.prog abC_S61 (opens []) abB_L63 7).2 (opens []) (abB_L63 62) 100000 (0 :: [0, 1, 0, 1]) (loopOf (bodyOf Try.prog 62) [1, 0, 1, 0]) (ix1_St u v) []).bind (finF [2, 3, 5, 6, 9, 10, 11, 12, 13, 14, 15, 16, 17, 18] [] [] [] 1004) = (ix1_step u v).bind (outA (ix1_St u) [.ret, .exit 0]) := by
  rintro ⟨q0, q2⟩ ⟨q1, q3⟩
  kernel_rfl
def ix1_rd (b : Bool) (tm : List (Option AV)) (own : Own) : Option (ix1_U × ix1_V) :=
  match b, tm, own with
  | true, [some (.one (.d false false (.prod (.prod (.int .i64) (.prod (.int .i64) (.prod (.int .i64) (.int .i64)))) (.prod (.int .i64) (.prod (.int .i64) (.prod (.int .i64) (.int .i64))))) q0)), some (.one (.fn 40 [])), some (.one (.v false (.int .i64 q1))), some (.one (.v false (.int .i64 q2))), some (.one (.v false (.int .i64 q3)))], [] => some ((q0, q2), (q1, q3))
  | _, _, _ => none
def ix1_can (st : Stt) : Stt := canA [2, 3, 5, 6, 9, 10, 11, 12, 13, 14, 15, 16, 17, 18] [] [] [] 1004 st
def ix1_cok (st : Stt) : Bool := canAok [2, 3, 5, 6, 9, 10, 11, 12, 13, 14, 15, 16, 17, 18] [] [] [] 1004 st
def ix1_read (st : Stt) : Option (ix1_U × ix1_V) := ix1_rd (ix1_cok st && (staysA [] [] st.own && juAll [2, 3, 5, 6, 9, 10, 11, 12, 13, 14, 15, 16, 17, 18] (ix1_can st).tm 19)) [(ix1_can st).tm[0]?, (ix1_can st).tm[1]?, (ix1_can st).tm[4]?, (ix1_can st).tm[7]?, (ix1_can st).tm[8]?] (ix1_can st).own
set_option maxRecDepth 100000 in
set_option maxHeartbeats 4000000 in
theorem ix1_rd_ok {b : Bool} {tm : List AV} {own : Own} {u : ix1_U} {v : ix1_V} (hj : b = true → juAll [2, 3, 5, 6, 9, 10, 11, 12, 13, 14, 15, 16, 17, 18] tm 19 = true) (h : ix1_rd b [tm[0]?, tm[1]?, tm[4]?, tm[7]?, tm[8]?] own = some (u, v)) : b = true ∧ tm = (ix1_St u v).tm ∧ own = (ix1_St u v).own := by
  unfold ix1_rd at h
  split at h
  · rename_i q0 q1 q2 q3 ht
    simp only [List.cons.injEq, and_true] at ht
    have h := Option.some.inj h
    have hu := congrArg Prod.fst h
    have hv := congrArg Prod.snd h
    dsimp only at hu hv
    subst hu
    subst hv
    refine ⟨rfl, (tm_fill (hj rfl) (Lv := [(0, .one (.d false false (.prod (.prod (.int .i64) (.prod (.int .i64) (.prod (.int .i64) (.int .i64)))) (.prod (.int .i64) (.prod (.int .i64) (.prod (.int .i64) (.int .i64))))) q0)), (1, .one (.fn 40 [])), (4, .one (.v false (.int .i64 q1))), (7, .one (.v false (.int .i64 q2))), (8, .one (.v false (.int .i64 q3)))]) (by kernel_rfl) (by simp only [allGet, ht, and_true])).trans (by kernel_rfl), rfl⟩
  · cases h
theorem ix1_read_ok (st : Stt) (u : ix1_U) (v : ix1_V) (h : ix1_read st = some (u, v)) : ix1_cok st = true ∧ staysA [] [] st.own = true ∧ ix1_can st = ix1_St u v := by
  obtain ⟨h1, h2, h3⟩ := ix1_rd_ok (fun hb => by rw [Bool.and_eq_true, Bool.and_eq_true] at hb; exact hb.2.2) h
  rw [Bool.and_eq_true, Bool.and_eq_true] at h1
  refine ⟨h1.1, h1.2.1, ?_⟩
  have e : ix1_can st = ⟨(ix1_can st).tm, (ix1_can st).own, 1004⟩ := by kernel_rfl
  rw [e, h2, h3]
  rfl
noncomputable def ix1_cond (u : ix1_U) (v : ix1_V) : Bool := runC (ix1_step u) v
noncomputable def ix1_g (u : ix1_U) (v : ix1_V) : Nat × ix1_V := runG (ix1_step u) v
theorem ix1_hg : ∀ (u : ix1_U) (v : ix1_V), ix1_cond u v = true → loopN (ix1_step u) ((fun u v => runF (ix1_step u) v) u v) v = some (ix1_g u v) := by
  exact fun u v h => run_hg h
noncomputable def ix1_m (st : Stt) : Option (Tr (Ex × Stt)) := sumM ix1_read ix1_cond ix1_St ix1_g [(0, .ret), (1, .exit 0)] st
noncomputable def abC_L62 : FuncId → Loops := addL 62 [0, 1, 0, 1] ix1_m abB_L63
set_option maxRecDepth 100000 in
set_option maxHeartbeats 4000000 in
theorem abC_L62_ok : LoopsOK Try.prog abC_L62 :=
  loop_sumF (body := (bodyOf Try.prog 62)) (c := (loopOf (bodyOf Try.prog 62) [1, 0, 1, 0])) (kinds := [.ret, .exit 0]) (allow := [(0, .ret), (1, .exit 0)]) (St := ix1_St) (step := ix1_step) (W := [2, 3, 5, 6, 9, 10, 11, 12, 13, 14, 15, 16, 17, 18]) (As := []) (ks := []) (dd := []) (nx := 1004) (n := 100000) (g := ix1_g) (cond := ix1_cond) (fuel := (fun u v => runF (ix1_step u) v)) (read := ix1_read) (by kernel_rfl) (abC_S61_ok) (abB_L63_ok) 7 ⟨Try.f62, by kernel_rfl, by kernel_rfl⟩ (by kernel_rfl) (by kernel_rfl) (by kernel_rfl) ix1_step_eq ix1_hg ix1_read_ok
abbrev ix2_U : Type := (Ty.list (.prod (.prod (.int .i64) (.prod (.int .i64) (.prod (.int .i64) (.int .i64)))) (.prod (.int .i64) (.prod (.int .i64) (.prod (.int .i64) (.int .i64)))))).den × Int
abbrev ix2_V : Type := Int × Int
def ix2_St (u : ix2_U) (v : ix2_V) : Stt := ⟨[.one (.d false false (.prod (.prod (.int .i64) (.prod (.int .i64) (.prod (.int .i64) (.int .i64)))) (.prod (.int .i64) (.prod (.int .i64) (.prod (.int .i64) (.int .i64))))) u.1), .one (.fn 44 []), .one .junk, .one .junk, .one (.v false (.int .i64 v.1)), .one .junk, .one .junk, .one (.v false (.int .i64 u.2)), .one (.v false (.int .i64 v.2)), .one .junk, .one .junk, .one .junk, .one .junk, .one .junk, .one .junk, .one .junk, .one .junk, .one .junk, .one .junk], [], 1004⟩
def ix2_step (u : ix2_U) (v : ix2_V) : Tr (ix2_V ⊕ (Nat × ix2_V)) :=
  match u, v with
  | (q0, q2), (q1, q3) => .br (decide (q3 < q2)) (.br (decide ((0 : Int) ≤ q3) && decide (q3 < ↑(List.length q0))) (.br (!sval (Prod.fst (Prod.fst (el_iiiiiiii q0 q3))) (Prod.fst (Prod.snd (Prod.fst (el_iiiiiiii q0 q3)))) (Prod.fst (Prod.snd (Prod.snd (Prod.fst (el_iiiiiiii q0 q3))))) (Prod.snd (Prod.snd (Prod.snd (Prod.fst (el_iiiiiiii q0 q3))))) (Prod.fst (Prod.snd (el_iiiiiiii q0 q3))) (Prod.fst (Prod.snd (Prod.snd (Prod.snd (el_iiiiiiii q0 q3)))))) (.ret (.inr (0, (q3, q3)))) (.ret (.inl (q1, IntKind.wrap IntKind.i64 (q3 + (1 : Int)))))) (.bad 29)) (.ret (.inr (1, (q1, q3))))
set_option maxRecDepth 100000 in
set_option maxHeartbeats 4000000 in
theorem ix2_step_eq : ∀ (u : ix2_U) (v : ix2_V), (evalC Try.prog (evalB Try.prog abC_S61 (opens []) abC_L62 7).1 (evalB Try.prog abC_S61 (opens []) abC_L62 7).2 (opens []) (abC_L62 62) 100000 (0 :: [0, 1, 0, 1]) (loopOf (bodyOf Try.prog 62) [1, 0, 1, 0]) (ix2_St u v) []).bind (finF [2, 3, 5, 6, 9, 10, 11, 12, 13, 14, 15, 16, 17, 18] [] [] [] 1004) = (ix2_step u v).bind (outA (ix2_St u) [.ret, .exit 0]) := by
  rintro ⟨q0, q2⟩ ⟨q1, q3⟩
  kernel_rfl
def ix2_rd (b : Bool) (tm : List (Option AV)) (own : Own) : Option (ix2_U × ix2_V) :=
  match b, tm, own with
  | true, [some (.one (.d false false (.prod (.prod (.int .i64) (.prod (.int .i64) (.prod (.int .i64) (.int .i64)))) (.prod (.int .i64) (.prod (.int .i64) (.prod (.int .i64) (.int .i64))))) q0)), some (.one (.fn 44 [])), some (.one (.v false (.int .i64 q1))), some (.one (.v false (.int .i64 q2))), some (.one (.v false (.int .i64 q3)))], [] => some ((q0, q2), (q1, q3))
  | _, _, _ => none
def ix2_can (st : Stt) : Stt := canA [2, 3, 5, 6, 9, 10, 11, 12, 13, 14, 15, 16, 17, 18] [] [] [] 1004 st
def ix2_cok (st : Stt) : Bool := canAok [2, 3, 5, 6, 9, 10, 11, 12, 13, 14, 15, 16, 17, 18] [] [] [] 1004 st
def ix2_read (st : Stt) : Option (ix2_U × ix2_V) := ix2_rd (ix2_cok st && (staysA [] [] st.own && juAll [2, 3, 5, 6, 9, 10, 11, 12, 13, 14, 15, 16, 17, 18] (ix2_can st).tm 19)) [(ix2_can st).tm[0]?, (ix2_can st).tm[1]?, (ix2_can st).tm[4]?, (ix2_can st).tm[7]?, (ix2_can st).tm[8]?] (ix2_can st).own
set_option maxRecDepth 100000 in
set_option maxHeartbeats 4000000 in
theorem ix2_rd_ok {b : Bool} {tm : List AV} {own : Own} {u : ix2_U} {v : ix2_V} (hj : b = true → juAll [2, 3, 5, 6, 9, 10, 11, 12, 13, 14, 15, 16, 17, 18] tm 19 = true) (h : ix2_rd b [tm[0]?, tm[1]?, tm[4]?, tm[7]?, tm[8]?] own = some (u, v)) : b = true ∧ tm = (ix2_St u v).tm ∧ own = (ix2_St u v).own := by
  unfold ix2_rd at h
  split at h
  · rename_i q0 q1 q2 q3 ht
    simp only [List.cons.injEq, and_true] at ht
    have h := Option.some.inj h
    have hu := congrArg Prod.fst h
    have hv := congrArg Prod.snd h
    dsimp only at hu hv
    subst hu
    subst hv
    refine ⟨rfl, (tm_fill (hj rfl) (Lv := [(0, .one (.d false false (.prod (.prod (.int .i64) (.prod (.int .i64) (.prod (.int .i64) (.int .i64)))) (.prod (.int .i64) (.prod (.int .i64) (.prod (.int .i64) (.int .i64))))) q0)), (1, .one (.fn 44 [])), (4, .one (.v false (.int .i64 q1))), (7, .one (.v false (.int .i64 q2))), (8, .one (.v false (.int .i64 q3)))]) (by kernel_rfl) (by simp only [allGet, ht, and_true])).trans (by kernel_rfl), rfl⟩
  · cases h
theorem ix2_read_ok (st : Stt) (u : ix2_U) (v : ix2_V) (h : ix2_read st = some (u, v)) : ix2_cok st = true ∧ staysA [] [] st.own = true ∧ ix2_can st = ix2_St u v := by
  obtain ⟨h1, h2, h3⟩ := ix2_rd_ok (fun hb => by rw [Bool.and_eq_true, Bool.and_eq_true] at hb; exact hb.2.2) h
  rw [Bool.and_eq_true, Bool.and_eq_true] at h1
  refine ⟨h1.1, h1.2.1, ?_⟩
  have e : ix2_can st = ⟨(ix2_can st).tm, (ix2_can st).own, 1004⟩ := by kernel_rfl
  rw [e, h2, h3]
  rfl
noncomputable def ix2_cond (u : ix2_U) (v : ix2_V) : Bool := runC (ix2_step u) v
noncomputable def ix2_g (u : ix2_U) (v : ix2_V) : Nat × ix2_V := runG (ix2_step u) v
theorem ix2_hg : ∀ (u : ix2_U) (v : ix2_V), ix2_cond u v = true → loopN (ix2_step u) ((fun u v => runF (ix2_step u) v) u v) v = some (ix2_g u v) := by
  exact fun u v h => run_hg h
noncomputable def ix2_m (st : Stt) : Option (Tr (Ex × Stt)) := sumM ix2_read ix2_cond ix2_St ix2_g [(0, .ret), (1, .exit 0)] st
noncomputable def abC_L63 : FuncId → Loops := addL 62 [0, 1, 0, 1] ix2_m abC_L62
set_option maxRecDepth 100000 in
set_option maxHeartbeats 4000000 in
theorem abC_L63_ok : LoopsOK Try.prog abC_L63 :=
  loop_sumF (body := (bodyOf Try.prog 62)) (c := (loopOf (bodyOf Try.prog 62) [1, 0, 1, 0])) (kinds := [.ret, .exit 0]) (allow := [(0, .ret), (1, .exit 0)]) (St := ix2_St) (step := ix2_step) (W := [2, 3, 5, 6, 9, 10, 11, 12, 13, 14, 15, 16, 17, 18]) (As := []) (ks := []) (dd := []) (nx := 1004) (n := 100000) (g := ix2_g) (cond := ix2_cond) (fuel := (fun u v => runF (ix2_step u) v)) (read := ix2_read) (by kernel_rfl) (abC_S61_ok) (abC_L62_ok) 7 ⟨Try.f62, by kernel_rfl, by kernel_rfl⟩ (by kernel_rfl) (by kernel_rfl) (by kernel_rfl) ix2_step_eq ix2_hg ix2_read_ok
abbrev smin_U : Type := (Ty.list (.int .i64)).den × Int
abbrev smin_V : Type := Int × Int
def smin_St (u : smin_U) (v : smin_V) : Stt := ⟨[.one (.d false false (.int .i64) u.1), .one .junk, .one (.v false (.int .i64 u.2)), .one (.v false (.int .i64 v.1)), .one (.v false (.int .i64 v.2)), .one .junk, .one .junk, .one .junk, .one .junk, .one .junk, .one .junk, .one .junk, .one .junk, .one .junk, .one .junk, .one .junk, .one .junk, .one .junk, .one .junk, .one .junk, .one .junk, .one .junk, .one .junk, .one .junk, .one .junk], [], 1009⟩
def smin_step (u : smin_U) (v : smin_V) : Tr (smin_V ⊕ (Nat × smin_V)) :=
  match u, v with
  | (q0, q1), (q2, q3) => .br (decide (q3 < ↑(List.length q0))) (.br (decide ((0 : Int) ≤ q3) && decide (q3 < ↑(List.length q0))) (.ret (.inl (if el_i q0 q3 < q2 then el_i q0 q3 else q2, IntKind.wrap IntKind.i64 (q3 + (1 : Int))))) (.bad 29)) (.ret (.inr (0, (q2, q3))))
set_option maxRecDepth 100000 in
set_option maxHeartbeats 4000000 in
theorem smin_step_eq : ∀ (u : smin_U) (v : smin_V), (evalC Try.prog (evalB Try.prog abC_S61 (opens []) abC_L63 7).1 (evalB Try.prog abC_S61 (opens []) abC_L63 7).2 (opens []) (abC_L63 47) 100000 (0 :: [0, 1, 0, 1, 1, 1]) (loopOf (bodyOf Try.prog 47) [1, 1, 1, 0, 1, 0]) (smin_St u v) []).bind (finF [1, 5, 6, 7, 8, 9, 10, 11, 12, 13, 14, 15, 16, 17, 18, 19, 20, 21, 22, 23, 24] [] [] [] 1009) = (smin_step u v).bind (outA (smin_St u) [.exit 0]) := by
  rintro ⟨q0, q1⟩ ⟨q2, q3⟩
  kernel_rfl
def smin_rd (b : Bool) (tm : List (Option AV)) (own : Own) : Option (smin_U × smin_V) :=
  match b, tm, own with
  | true, [some (.one (.d false false (.int .i64) q0)), some (.one (.v false (.int .i64 q1))), some (.one (.v false (.int .i64 q2))), some (.one (.v false (.int .i64 q3)))], [] => some ((q0, q1), (q2, q3))
  | _, _, _ => none
def smin_can (st : Stt) : Stt := canA [1, 5, 6, 7, 8, 9, 10, 11, 12, 13, 14, 15, 16, 17, 18, 19, 20, 21, 22, 23, 24] [] [] [] 1009 st
def smin_cok (st : Stt) : Bool := canAok [1, 5, 6, 7, 8, 9, 10, 11, 12, 13, 14, 15, 16, 17, 18, 19, 20, 21, 22, 23, 24] [] [] [] 1009 st
def smin_read (st : Stt) : Option (smin_U × smin_V) := smin_rd (smin_cok st && (staysA [] [] st.own && juAll [1, 5, 6, 7, 8, 9, 10, 11, 12, 13, 14, 15, 16, 17, 18, 19, 20, 21, 22, 23, 24] (smin_can st).tm 25)) [(smin_can st).tm[0]?, (smin_can st).tm[2]?, (smin_can st).tm[3]?, (smin_can st).tm[4]?] (smin_can st).own
set_option maxRecDepth 100000 in
set_option maxHeartbeats 4000000 in
theorem smin_rd_ok {b : Bool} {tm : List AV} {own : Own} {u : smin_U} {v : smin_V} (hj : b = true → juAll [1, 5, 6, 7, 8, 9, 10, 11, 12, 13, 14, 15, 16, 17, 18, 19, 20, 21, 22, 23, 24] tm 25 = true) (h : smin_rd b [tm[0]?, tm[2]?, tm[3]?, tm[4]?] own = some (u, v)) : b = true ∧ tm = (smin_St u v).tm ∧ own = (smin_St u v).own := by
  unfold smin_rd at h
  split at h
  · rename_i q0 q1 q2 q3 ht
    simp only [List.cons.injEq, and_true] at ht
    have h := Option.some.inj h
    have hu := congrArg Prod.fst h
    have hv := congrArg Prod.snd h
    dsimp only at hu hv
    subst hu
    subst hv
    refine ⟨rfl, (tm_fill (hj rfl) (Lv := [(0, .one (.d false false (.int .i64) q0)), (2, .one (.v false (.int .i64 q1))), (3, .one (.v false (.int .i64 q2))), (4, .one (.v false (.int .i64 q3)))]) (by kernel_rfl) (by simp only [allGet, ht, and_true])).trans (by kernel_rfl), rfl⟩
  · cases h
theorem smin_read_ok (st : Stt) (u : smin_U) (v : smin_V) (h : smin_read st = some (u, v)) : smin_cok st = true ∧ staysA [] [] st.own = true ∧ smin_can st = smin_St u v := by
  obtain ⟨h1, h2, h3⟩ := smin_rd_ok (fun hb => by rw [Bool.and_eq_true, Bool.and_eq_true] at hb; exact hb.2.2) h
  rw [Bool.and_eq_true, Bool.and_eq_true] at h1
  refine ⟨h1.1, h1.2.1, ?_⟩
  have e : smin_can st = ⟨(smin_can st).tm, (smin_can st).own, 1009⟩ := by kernel_rfl
  rw [e, h2, h3]
  rfl
noncomputable def smin_cond (u : smin_U) (v : smin_V) : Bool := runC (smin_step u) v
noncomputable def smin_g (u : smin_U) (v : smin_V) : Nat × smin_V := runG (smin_step u) v
theorem smin_hg : ∀ (u : smin_U) (v : smin_V), smin_cond u v = true → loopN (smin_step u) ((fun u v => runF (smin_step u) v) u v) v = some (smin_g u v) := by
  exact fun u v h => run_hg h
noncomputable def smin_m (st : Stt) : Option (Tr (Ex × Stt)) := sumM smin_read smin_cond smin_St smin_g [(0, .exit 0)] st
noncomputable def abC_L64 : FuncId → Loops := addL 47 [0, 1, 0, 1, 1, 1] smin_m abC_L63
set_option maxRecDepth 100000 in
set_option maxHeartbeats 4000000 in
theorem abC_L64_ok : LoopsOK Try.prog abC_L64 :=
  loop_sumF (body := (bodyOf Try.prog 47)) (c := (loopOf (bodyOf Try.prog 47) [1, 1, 1, 0, 1, 0])) (kinds := [.exit 0]) (allow := [(0, .exit 0)]) (St := smin_St) (step := smin_step) (W := [1, 5, 6, 7, 8, 9, 10, 11, 12, 13, 14, 15, 16, 17, 18, 19, 20, 21, 22, 23, 24]) (As := []) (ks := []) (dd := []) (nx := 1009) (n := 100000) (g := smin_g) (cond := smin_cond) (fuel := (fun u v => runF (smin_step u) v)) (read := smin_read) (by kernel_rfl) (abC_S61_ok) (abC_L63_ok) 7 ⟨Try.f47, by kernel_rfl, by kernel_rfl⟩ (by kernel_rfl) (by kernel_rfl) (by kernel_rfl) smin_step_eq smin_hg smin_read_ok
end Go.Proofs.Ytaidlflnkdamkaa
