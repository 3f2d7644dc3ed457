/-
  Layer 20: MorphCrossAdjoint, MorphNested.
-/
import Derived.Test.YtdoodmapmhibhaaProg
import Derived.Test.YtdoodmapmhibhaaFvX
import Derived.Test.YtdoodmapmhibhaaFvZ
import Derived.Test.YtdoodmapmhibhaaAut
import Derived.Test.YtdoodmapmhibhaaRd
import Derived.Test.YtdoodmapmhibhaaPl
import Derived.Test.YtdoodmapmhibhaaScn
import Derived.Test.YtdoodmapmhibhaaRegM
import Derived.Test.YtdoodmapmhibhaaMor
import Derived.Test.YtdoodmapmhibhaaRgA
import Derived.Test.YtdoodmapmhibhaaRgB
import Derived.Test.YtdoodmapmhibhaaRgC
import Derived.Test.YtdoodmapmhibhaaRgD
import Derived.Test.YtdoodmapmhibhaaMoB
import Derived.Test.YtdoodmapmhibhaaMoC
import Derived.Test.YtdoodmapmhibhaaMoD
import Derived.Test.YtdoodmapmhibhaaMoW
namespace Go.Proofs.Ytdoodmapmhibhaa
open Go
noncomputable def moG_S51 : Sums := addS 15 gTrue moF_S58
theorem moG_S51_ok : SumOK Try.prog moG_S51 := addS_ok (gTrue_ok (by kernel_rfl) (moW_S119_ok) (L0_ok _) aw15_tree) (moF_S58_ok)
set_option maxRecDepth 100000 in
theorem witc_tree (A : (Ty.list (.prod (.int .i64) (.list (.prod (.int .i64) (.int .i64))))).den) (B : (Ty.list (.prod (.int .i64) (.list (.prod (.int .i64) (.int .i64))))).den) : evalF Try.prog moG_S51 (opens []) moF_L55 9 30 [.ag [.d false false (.prod (.int .i64) (.list (.prod (.int .i64) (.int .i64)))) A], .ag [.d false false (.prod (.int .i64) (.list (.prod (.int .i64) (.int .i64)))) B]] = .br (((szG A) && (bif valGB A then ((szG B) && (bif valGB B then (szG A && szG B) else true)) else true))) (.ret (.one (.v false (.bool (bif valGB A then bif valGB B then (↑(List.length (opR (0 : Int) A B)) : Int) == (0 : Int) else false else false))))) (.bad 116) := by kernel_rfl
theorem witc_val (A : (Ty.list (.prod (.int .i64) (.list (.prod (.int .i64) (.int .i64))))).den) (B : (Ty.list (.prod (.int .i64) (.list (.prod (.int .i64) (.int .i64))))).den) (hc : (szG A && szG B) = true) : (.br (((szG A) && (bif valGB A then ((szG B) && (bif valGB B then (szG A && szG B) else true)) else true))) (.ret (.one (.v false (.bool (bif valGB A then bif valGB B then (↑(List.length (opR (0 : Int) A B)) : Int) == (0 : Int) else false else false))))) (.bad 116) : Tr AV).val = some (.one (.v false (.bool (withinG A B)))) := by
  obtain ⟨K, rfl⟩ : ∃ K : Rg, K = A := ⟨A, rfl⟩
  obtain ⟨M, rfl⟩ : ∃ K : Rg, K = B := ⟨B, rfl⟩
  rw [Bool.and_eq_true] at hc
  have h1 : szG K = true := hc.1
  have h2 : szG M = true := hc.2
  have e : (((opR 0 K M).length : Int) == (0 : Int)) = decide (opR 0 K M = []) := by
    rw [Bool.eq_iff_iff, beq_iff_eq, decide_eq_true_eq, ← List.length_eq_zero_iff]
    omega
  unfold withinG
  show cond _ _ _ = _
  rw [e]
  cases hv : valGB K
  · simp only [h1, Bool.and_self, Bool.false_and, cond_true, cond_false, Tr.val]
  · cases hw : valGB M
    · simp only [h1, h2, Bool.and_self, Bool.and_false, Bool.false_and, cond_true, cond_false, Tr.val]
    · simp only [h1, h2, Bool.and_self, Bool.true_and, cond_true, Tr.val]
noncomputable def witc_g : List AV → Option (Tr AV)
  | [.ag [.d _ _ (.prod (.int .i64) (.list (.prod (.int .i64) (.int .i64)))) A], .ag [.d _ _ (.prod (.int .i64) (.list (.prod (.int .i64) (.int .i64)))) B]] => some (.br (szG A && szG B) (.ret (.one (.v false (.bool (withinG A B))))) (.bad 900))
  | _ => none
set_option maxHeartbeats 4000000 in
theorem witc_ok : FunOK Try.prog 30 witc_g := by
  refine fun_ok (by kernel_rfl) (moG_S51_ok) (moF_L55_ok) 9 (On := (opens [])) (fun args t h => ?_)
  unfold witc_g at h
  split at h
  · rename_i _ _ A _ _ B
    simp only [Option.some.injEq] at h
    subst h
    refine ⟨[.ag [.d false false (.prod (.int .i64) (.list (.prod (.int .i64) (.int .i64)))) A], .ag [.d false false (.prod (.int .i64) (.list (.prod (.int .i64) (.int .i64)))) B]], rfl, fun fr w us h => h, fun r hr => ?_⟩
    obtain ⟨hc, hr⟩ := br_bad hr
    simp only [Tr.val, Option.some.injEq] at hr
    subst hr
    rw [witc_tree]
    exact witc_val A B hc
  · cases h
noncomputable def moG_S52 : Sums := addS 30 witc_g moG_S51
theorem moG_S52_ok : SumOK Try.prog moG_S52 := addS_ok (witc_ok) (moG_S51_ok)
abbrev hv_U : Type := Bool × (Ty.list (.prod (.int .i64) (.list (.prod (.int .i64) (.int .i64))))).den
abbrev hv_V : Type := Int × Int
noncomputable def hv_St (u : hv_U) (v : hv_V) : Stt := ⟨[.one .junk, .one (.p 0 0), .one (.v false (.bool u.1)), .one (.v false (.int .i64 v.1)), .one (.v false (.int .i64 v.2)), .one .junk, .one .junk, .one .junk, .one .junk, .one .junk, .one .junk, .one .junk, .one .junk, .one .junk, .one .junk, .one .junk, .one .junk, .one .junk, .one .junk, .one .junk, .one .junk, .one .junk, .one .junk, .one .junk, .one .junk, .one .junk, .one .junk, .one .junk, .one .junk, .one .junk, .one .junk, .one .junk, .one .junk, .one .junk, .one .junk, .one .junk, .one .junk, .one .junk], [(0, .cells [.d false false (.prod (.int .i64) (.list (.prod (.int .i64) (.int .i64)))) u.2])], 1004⟩
noncomputable def hv_step (u : hv_U) (v : hv_V) : Tr (hv_V ⊕ (Nat × hv_V)) :=
  match u, v with
  | (_, q3), (q1, q2) => .br (bif decide (q2 < (↑(List.length q3) : Int)) then decide (q2 < (300 : Int)) else false) (.br (decide ((0 : Int) ≤ q2) && decide (q2 < (↑(List.length q3) : Int))) (.ret (.inl (IntKind.wrap IntKind.i64 (q1 + (↑(List.length (Prod.snd (el_ilii q3 q2))) : Int)), IntKind.wrap IntKind.i64 (q2 + (1 : Int))))) (.bad 29)) (.ret (.inr (0, (q1, q2))))
set_option maxRecDepth 100000 in
set_option maxHeartbeats 4000000 in
theorem hv_step_eq : ∀ (u : hv_U) (v : hv_V), (evalC Try.prog (evalB Try.prog moG_S52 (opens []) moF_L55 7).1 (evalB Try.prog moG_S52 (opens []) moF_L55 7).2 (opens []) (moF_L55 14) 100000 (0 :: [0, 1, 0, 1, 1]) (loopOf (bodyOf Try.prog 14) [1, 1, 0, 1, 0]) (hv_St u v) []).bind (finF [0, 5, 6, 7, 8, 9, 10, 11, 12, 13, 14, 15, 16, 17, 18, 19, 20, 21, 22, 23, 24, 25, 26, 27, 28, 29, 30, 31, 32, 33, 34, 35, 36, 37] [] [0] [] 1004) = (hv_step u v).bind (outA (hv_St u) [.exit 0]) := by
  rintro ⟨q0, q3⟩ ⟨q1, q2⟩
  kernel_rfl
noncomputable def hv_rd (b : Bool) (o1 : Option AV) (o2 : Option AV) (o3 : Option AV) (o4 : Option AV) (own : Own) : Option (hv_U × hv_V) := zrT b <| zrO o1 fun za1 => zrA1 za1 fun zc2 => zrP 0 0 zc2 <| zrO o2 fun za3 => zrA1 za3 fun zc4 => zrB zc4 fun q0 => zrO o3 fun za5 => zrA1 za5 fun zc6 => zrI .i64 zc6 fun q1 => zrO o4 fun za7 => zrA1 za7 fun zc8 => zrI .i64 zc8 fun q2 => zrL own fun zq9 zw10 => zrKey 0 zq9 fun zk11 => zrC zk11 fun zl12 => zrL zl12 fun zc13 zr14 => zrD (.prod (.int .i64) (.list (.prod (.int .i64) (.int .i64)))) zc13 fun q3 => zrN zr14 <| zrN zw10 <| some ((q0, q3), (q1, q2))
noncomputable def hv_can (st : Stt) : Stt := canA [0, 5, 6, 7, 8, 9, 10, 11, 12, 13, 14, 15, 16, 17, 18, 19, 20, 21, 22, 23, 24, 25, 26, 27, 28, 29, 30, 31, 32, 33, 34, 35, 36, 37] [] [0] [] 1004 st
noncomputable def hv_cok (st : Stt) : Bool := canAok [0, 5, 6, 7, 8, 9, 10, 11, 12, 13, 14, 15, 16, 17, 18, 19, 20, 21, 22, 23, 24, 25, 26, 27, 28, 29, 30, 31, 32, 33, 34, 35, 36, 37] [] [0] [] 1004 st
noncomputable def hv_read (st : Stt) : Option (hv_U × hv_V) := hv_rd (hv_cok st && (staysA [] [0] st.own && juAll [0, 5, 6, 7, 8, 9, 10, 11, 12, 13, 14, 15, 16, 17, 18, 19, 20, 21, 22, 23, 24, 25, 26, 27, 28, 29, 30, 31, 32, 33, 34, 35, 36, 37] (hv_can st).tm 38)) (hv_can st).tm[1]? (hv_can st).tm[2]? (hv_can st).tm[3]? (hv_can st).tm[4]? (hv_can st).own
set_option maxRecDepth 100000 in
set_option maxHeartbeats 4000000 in
theorem hv_rd_ok {b : Bool} {tm : List AV} {own : Own} {u : hv_U} {v : hv_V} (hj : b = true → juAll [0, 5, 6, 7, 8, 9, 10, 11, 12, 13, 14, 15, 16, 17, 18, 19, 20, 21, 22, 23, 24, 25, 26, 27, 28, 29, 30, 31, 32, 33, 34, 35, 36, 37] tm 38 = true) (h : hv_rd b tm[1]? tm[2]? tm[3]? tm[4]? own = some (u, v)) : b = true ∧ tm = (hv_St u v).tm ∧ own = (hv_St u v).own := by
  unfold hv_rd at h
  obtain ⟨rfl, h0⟩ := zrT_some h
  obtain ⟨za1, e1, h1⟩ := zrO_some h0
  obtain ⟨zc2, rfl, h2⟩ := zrA1_some h1
  obtain ⟨rfl, h3⟩ := zrP_some h2
  obtain ⟨za3, e2, h4⟩ := zrO_some h3
  obtain ⟨zc4, rfl, h5⟩ := zrA1_some h4
  obtain ⟨q0, rfl, h6⟩ := zrB_some h5
  obtain ⟨za5, e3, h7⟩ := zrO_some h6
  obtain ⟨zc6, rfl, h8⟩ := zrA1_some h7
  obtain ⟨q1, rfl, h9⟩ := zrI_some h8
  obtain ⟨za7, e4, h10⟩ := zrO_some h9
  obtain ⟨zc8, rfl, h11⟩ := zrA1_some h10
  obtain ⟨q2, rfl, h12⟩ := zrI_some h11
  obtain ⟨zq9, zw10, rfl, h13⟩ := zrL_some h12
  obtain ⟨zk11, rfl, h14⟩ := zrKey_some h13
  obtain ⟨zl12, rfl, h15⟩ := zrC_some h14
  obtain ⟨zc13, zr14, rfl, h16⟩ := zrL_some h15
  obtain ⟨q3, rfl, h17⟩ := zrD_some h16
  obtain ⟨rfl, h18⟩ := zrN_some h17
  obtain ⟨rfl, h19⟩ := zrN_some h18
  have h := Option.some.inj h19
  have hu := congrArg Prod.fst h
  have hv := congrArg Prod.snd h
  dsimp only at hu hv
  subst hu
  subst hv
  exact ⟨rfl, (tm_fill (hj rfl) (Lv := [(1, .one (.p 0 0)), (2, .one (.v false (.bool q0))), (3, .one (.v false (.int .i64 q1))), (4, .one (.v false (.int .i64 q2)))]) (by kernel_rfl) ⟨e1, e2, e3, e4, trivial⟩).trans (by kernel_rfl), rfl⟩
theorem hv_read_ok (st : Stt) (u : hv_U) (v : hv_V) (h : hv_read st = some (u, v)) : hv_cok st = true ∧ staysA [] [0] st.own = true ∧ hv_can st = hv_St u v := by
  obtain ⟨h1, h2, h3⟩ := hv_rd_ok (fun hb => by rw [Bool.and_eq_true, Bool.and_eq_true] at hb; exact hb.2.2) h
  rw [Bool.and_eq_true, Bool.and_eq_true] at h1
  refine ⟨h1.1, h1.2.1, ?_⟩
  have e : hv_can st = ⟨(hv_can st).tm, (hv_can st).own, 1004⟩ := by kernel_rfl
  rw [e, h2, h3]
  rfl
noncomputable def hv_cond (u : hv_U) (v : hv_V) : Bool := runC (hv_step u) v
noncomputable def hv_g (u : hv_U) (v : hv_V) : Nat × hv_V := runG (hv_step u) v
theorem hv_hg : ∀ (u : hv_U) (v : hv_V), hv_cond u v = true → loopN (hv_step u) ((fun u v => runF (hv_step u) v) u v) v = some (hv_g u v) := by
  exact fun u v h => run_hg h
noncomputable def hv_m (st : Stt) : Option (Tr (Ex × Stt)) := sumM hv_read hv_cond hv_St hv_g [(0, .exit 0)] st
noncomputable def moG_L53 : FuncId → Loops := addL 14 [0, 1, 0, 1, 1] hv_m moF_L55
set_option maxRecDepth 100000 in
set_option maxHeartbeats 4000000 in
theorem moG_L53_ok : LoopsOK Try.prog moG_L53 :=
  loop_sumF (body := (bodyOf Try.prog 14)) (c := (loopOf (bodyOf Try.prog 14) [1, 1, 0, 1, 0])) (kinds := [.exit 0]) (allow := [(0, .exit 0)]) (St := hv_St) (step := hv_step) (W := [0, 5, 6, 7, 8, 9, 10, 11, 12, 13, 14, 15, 16, 17, 18, 19, 20, 21, 22, 23, 24, 25, 26, 27, 28, 29, 30, 31, 32, 33, 34, 35, 36, 37]) (As := []) (ks := [0]) (dd := []) (nx := 1004) (n := 100000) (g := hv_g) (cond := hv_cond) (fuel := (fun u v => runF (hv_step u) v)) (read := hv_read) (by kernel_rfl) (moG_S52_ok) (moF_L55_ok) 7 ⟨Try.f14, by kernel_rfl, by kernel_rfl⟩ (by kernel_rfl) (by kernel_rfl) (by kernel_rfl) hv_step_eq hv_hg hv_read_ok
theorem hv_run (R : Rg) : hv_cond (false, R) (0, 0) = true ∧ (hv_g (false, R) (0, 0)).1 = 0 := by
  refine run_val (step := hv_step (false, R)) (Inv := fun s => ∃ (n : Int) (i : Nat), s = (n, (i : Int)) ∧ i ≤ 300) (μ := fun s => 300 - s.2.toNat) (Q := fun t => t.1 = 0) ?_ _ _ (Nat.lt_succ_self _) ⟨0, 0, rfl, by omega⟩
  rintro s ⟨n, i, rfl, hi⟩
  by_cases g : i < R.length ∧ i < 300
  · have d1 := lt_t g.1
    have d2 : decide ((i : Int) < (300 : Int)) = true := decide_eq_true (by omega)
    have w : IntKind.wrap IntKind.i64 ((i : Int) + (1 : Int)) = ((i + 1 : Nat) : Int) := by rw [wid (by omega) (by omega)]; omega
    have g1 := g.1
    refine ⟨.inl (IntKind.wrap IntKind.i64 (n + (R[i].2.length : Int)), ((i + 1 : Nat) : Int)), ?_, ⟨_, i + 1, rfl, by omega⟩, by show 300 - ((i + 1 : Nat) : Int).toNat < 300 - (i : Int).toNat; omega⟩
    simp only [hv_step, Tr.val, d1, d2, nn_t, el_g g.1, w, Bool.and_self, cond_true]
  · have d : (bif decide ((i : Int) < (R.length : Int)) then decide ((i : Int) < (300 : Int)) else false) = false := by
      by_cases h : i < R.length
      · rw [lt_t h, decide_eq_false (show ¬ (i : Int) < 300 by omega)]; rfl
      · rw [decide_eq_false (show ¬ (i : Int) < (R.length : Int) by omega)]; rfl
    exact ⟨.inr (0, (n, (i : Int))), by simp only [hv_step, Tr.val, d, cond_false], rfl⟩
noncomputable def hvG (R : Rg) : Bool := bif bif decide ((R.length : Int) > (200 : Int)) then true else decide (Prod.fst (Prod.snd (hv_g (false, R) ((0 : Int), (0 : Int)))) > (400 : Int)) then true else decide (cntV R > (1500 : Int))
set_option maxRecDepth 100000 in
theorem hvc_tree (R : (Ty.list (.prod (.int .i64) (.list (.prod (.int .i64) (.int .i64))))).den) : evalF Try.prog moG_S52 (opens []) moG_L53 9 14 [.ag [.d false false (.prod (.int .i64) (.list (.prod (.int .i64) (.int .i64)))) R]] = .br (((hv_cond (false, R) ((0 : Int), (0 : Int))) && ((Nat.beq (Prod.fst (hv_g (false, R) ((0 : Int), (0 : Int)))) (0 : Nat)) && (bif bif decide ((↑(List.length R) : Int) > (200 : Int)) then true else decide (Prod.fst (Prod.snd (hv_g (false, R) ((0 : Int), (0 : Int)))) > (400 : Int)) then true else (szG R))))) (.ret (.one (.v false (.bool (bif bif decide ((↑(List.length R) : Int) > (200 : Int)) then true else decide (Prod.fst (Prod.snd (hv_g (false, R) ((0 : Int), (0 : Int)))) > (400 : Int)) then true else decide (cntV R > (1500 : Int))))))) (.bad 116) := by kernel_rfl
theorem hvc_val (R : (Ty.list (.prod (.int .i64) (.list (.prod (.int .i64) (.int .i64))))).den) (hc : (szG R) = true) : (.br (((hv_cond (false, R) ((0 : Int), (0 : Int))) && ((Nat.beq (Prod.fst (hv_g (false, R) ((0 : Int), (0 : Int)))) (0 : Nat)) && (bif bif decide ((↑(List.length R) : Int) > (200 : Int)) then true else decide (Prod.fst (Prod.snd (hv_g (false, R) ((0 : Int), (0 : Int)))) > (400 : Int)) then true else (szG R))))) (.ret (.one (.v false (.bool (bif bif decide ((↑(List.length R) : Int) > (200 : Int)) then true else decide (Prod.fst (Prod.snd (hv_g (false, R) ((0 : Int), (0 : Int)))) > (400 : Int)) then true else decide (cntV R > (1500 : Int))))))) (.bad 116) : Tr AV).val = some (.one (.v false (.bool (hvG R)))) := by
  obtain ⟨K, rfl⟩ : ∃ K : Rg, K = R := ⟨R, rfl⟩
  have hs : szG K = true := hc
  obtain ⟨v1, v2⟩ := hv_run K
  unfold hvG
  show cond _ _ _ = _
  simp only [v1, v2, hs, Nat.beq, Bool.and_self, Bool.cond_self, cond_true, Tr.val]
noncomputable def hvc_g : List AV → Option (Tr AV)
  | [.ag [.d _ _ (.prod (.int .i64) (.list (.prod (.int .i64) (.int .i64)))) R]] => some (.br (szG R) (.ret (.one (.v false (.bool (hvG R))))) (.bad 900))
  | _ => none
set_option maxHeartbeats 4000000 in
theorem hvc_ok : FunOK Try.prog 14 hvc_g := by
  refine fun_ok (by kernel_rfl) (moG_S52_ok) (moG_L53_ok) 9 (On := (opens [])) (fun args t h => ?_)
  unfold hvc_g at h
  split at h
  · rename_i _ _ R
    simp only [Option.some.injEq] at h
    subst h
    refine ⟨[.ag [.d false false (.prod (.int .i64) (.list (.prod (.int .i64) (.int .i64)))) R]], rfl, fun fr w us h => h, fun r hr => ?_⟩
    obtain ⟨hc, hr⟩ := br_bad hr
    simp only [Tr.val, Option.some.injEq] at hr
    subst hr
    rw [hvc_tree]
    exact hvc_val R hc
  · cases h
noncomputable def moG_S54 : Sums := addS 14 hvc_g moG_S52
theorem moG_S54_ok : SumOK Try.prog moG_S54 := addS_ok (hvc_ok) (moG_S52_ok)
theorem inr_sz {R : Rg} (r : Ty.InR (.list (.prod (.int .i64) (.list (.prod (.int .i64) (.int .i64))))) R) : szG R = true := by
  unfold szG
  have h1 : R.length ≤ maxLen := r.1
  have h2 : ∀ x ∈ R, x.2.length ≤ maxLen := fun x hx => (r.2 x hx).2.1
  unfold maxLen at h1 h2
  rw [Bool.and_eq_true, decide_eq_true_eq, List.all_eq_true]
  exact ⟨by omega, fun x hx => decide_eq_true (by have := h2 x hx; omega)⟩
theorem chk_ok {R : Rg} {k : Int} (h : (chkE R k != (0 : Int)) = false) : 0 ≤ k ∧ k ≤ 64 ∧ valG R ∧ fitsG R k ∧ dlG R k = sqG true R k := by
  unfold chkE at h
  unfold dlG
  cases hr : rchB k
  · rw [hr] at h; cases h
  · cases hv : valGB R
    · rw [hr, hv] at h; cases h
    · cases hf : fitB R k
      · rw [hr, hv, hf] at h; cases h
      · exact ⟨(rch_iff.1 hr).1, (rch_iff.1 hr).2, valGB_iff.1 hv, fitB_iff.1 hf, rfl⟩
theorem dc_val (R : Rg) (k : Int) : valG (dcG R k) := by
  unfold dcG
  cases rchB k && valGB R && fitB R k
  · exact valG_nil
  · exact dm_val _ _ _
theorem ec_val (R : Rg) (k : Int) : valG (ecG R k) := by
  unfold ecG
  cases rchB k && valGB R
  · exact valG_nil
  · exact dm_val _ _ _
theorem sz_dc (R : Rg) (k : Int) : szG (dcG R k) = true := val_sz (dc_val R k)
theorem sz_ec (R : Rg) (k : Int) : szG (ecG R k) = true := val_sz (ec_val R k)
theorem ec_eq {R : Rg} {k : Int} (h : valG R) (k0 : 0 ≤ k) (k1 : k ≤ 64) : ecG R k = dmG false R k := by
  unfold ecG
  rw [rch_iff.2 ⟨k0, k1⟩, valGB_t h]; rfl
theorem dc_eq {R : Rg} {k : Int} (h : valG R) (k0 : 0 ≤ k) (k1 : k ≤ 64) (hf : fitsG R k) : dcG R k = dmG true R k := by
  unfold dcG
  rw [rch_iff.2 ⟨k0, k1⟩, valGB_t h, fitB_iff.2 hf]; rfl
theorem adjc_law {A B : Rg} {k : Int} (hb : valG B) (h : (chkE A k != (0 : Int)) = false) : withinG (dcG A k) B = withinG A (ecG B k) := by
  obtain ⟨k0, k1, ha, hf, _⟩ := chk_ok h
  rw [dc_eq ha k0 k1 hf, ec_eq hb k0 k1, Bool.eq_iff_iff, within_iff (dm_val _ _ _) hb, within_iff ha (dm_val _ _ _)]
  exact adj_dm ha hb k0 k1 hf
set_option maxRecDepth 100000 in
theorem law_MorphCrossAdjoint_tree (A : (Ty.list (.prod (.int .i64) (.list (.prod (.int .i64) (.int .i64))))).den) (B : (Ty.list (.prod (.int .i64) (.list (.prod (.int .i64) (.int .i64))))).den) (k : Int) : evalF Try.prog moG_S54 (opens []) moG_L53 9 12 [.ag [.d false false (.prod (.int .i64) (.list (.prod (.int .i64) (.int .i64)))) A, .d false false (.prod (.int .i64) (.list (.prod (.int .i64) (.int .i64)))) B, .v false (.int .i64 k)]] = .br (((szG A) && (bif hvG A then true else ((szG B) && (bif hvG B then true else ((szG B) && (bif !valGB B then true else ((szG A) && (bif chkE A k != (0 : Int) then true else ((szG (dcG A k) && szG B) && ((szG B) && (szG A && szG (ecG B k))))))))))))) (.ret (.one (.v false (.bool (bif hvG A then true else bif hvG B then true else bif !valGB B then true else bif chkE A k != (0 : Int) then true else bif withinG (dcG A k) B == withinG A (ecG B k) then true else false))))) (.bad 116) := by kernel_rfl
set_option maxHeartbeats 4000000 in
theorem law_MorphCrossAdjoint_all (A : (Ty.list (.prod (.int .i64) (.list (.prod (.int .i64) (.int .i64))))).den) (B : (Ty.list (.prod (.int .i64) (.list (.prod (.int .i64) (.int .i64))))).den) (k : Int) (r0 : Ty.InR (.prod (.list (.prod (.int .i64) (.list (.prod (.int .i64) (.int .i64))))) (.prod (.list (.prod (.int .i64) (.list (.prod (.int .i64) (.int .i64))))) (.int .i64))) (A, (B, k)))  : Tr.all (fun r => ∃ kn, r = AV.one (.v kn (.bool true))) (.br (((szG A) && (bif hvG A then true else ((szG B) && (bif hvG B then true else ((szG B) && (bif !valGB B then true else ((szG A) && (bif chkE A k != (0 : Int) then true else ((szG (dcG A k) && szG B) && ((szG B) && (szG A && szG (ecG B k))))))))))))) (.ret (.one (.v false (.bool (bif hvG A then true else bif hvG B then true else bif !valGB B then true else bif chkE A k != (0 : Int) then true else bif withinG (dcG A k) B == withinG A (ecG B k) then true else false))))) (.bad 116)) := by
  obtain ⟨K, rfl⟩ : ∃ K : Rg, K = A := ⟨A, rfl⟩
  obtain ⟨M, rfl⟩ : ∃ K : Rg, K = B := ⟨B, rfl⟩
  have sA : szG K = true := inr_sz r0.1
  have sB : szG M = true := inr_sz r0.2.1
  cases hA : hvG K
  · cases hB : hvG M
    · cases hv : valGB M
      · simp only [sA, sB, Bool.not_false, Bool.and_self, cond_true, cond_false]
        exact ⟨fun _ => ⟨_, rfl⟩, fun h => by cases h⟩
      · cases hc : chkE K k != (0 : Int)
        · have e := adjc_law (valGB_iff.1 hv) hc
          simp only [sA, sB, e, sz_dc, sz_ec, beq_self_eq_true, Bool.not_true, Bool.and_self, cond_true, cond_false]
          exact ⟨fun _ => ⟨_, rfl⟩, fun h => by cases h⟩
        · simp only [sA, sB, Bool.not_true, Bool.and_self, cond_true, cond_false]
          exact ⟨fun _ => ⟨_, rfl⟩, fun h => by cases h⟩
    · simp only [sA, sB, Bool.and_self, cond_true, cond_false]
      exact ⟨fun _ => ⟨_, rfl⟩, fun h => by cases h⟩
  · simp only [sA, Bool.and_self, cond_true]
    exact ⟨fun _ => ⟨_, rfl⟩, fun h => by cases h⟩
set_option maxHeartbeats 4000000 in
theorem law_MorphCrossAdjoint (v0 : Value) (x0 : ((.prod (.list (.prod (.int .i64) (.list (.prod (.int .i64) (.int .i64))))) (.prod (.list (.prod (.int .i64) (.list (.prod (.int .i64) (.int .i64))))) (.int .i64))) : Ty).den) (r0 : Ty.InR (.prod (.list (.prod (.int .i64) (.list (.prod (.int .i64) (.int .i64))))) (.prod (.list (.prod (.int .i64) (.list (.prod (.int .i64) (.int .i64))))) (.int .i64))) x0) (z_w : World) (i0 : (AV.ag (Ty.cells false (.prod (.list (.prod (.int .i64) (.list (.prod (.int .i64) (.int .i64))))) (.prod (.list (.prod (.int .i64) (.list (.prod (.int .i64) (.int .i64))))) (.int .i64))) x0)).is [] (fun _ => none) (fun b => b < z_w.heap.size) z_w v0) : Calls Try.prog 12 #[v0] z_w fun e w' => e = .returned (.bool true) ∧ Ext z_w w' := by
  obtain ⟨A, ⟨B, k⟩⟩ := x0
  refine law_of_tree (by kernel_rfl) (moG_S54_ok) (moG_L53_ok) (law_MorphCrossAdjoint_tree A B k) (law_MorphCrossAdjoint_all A B k r0 ) rfl z_w _ _ (fun _ h => h) ⟨_, _, rfl, i0, rfl⟩
end Go.Proofs.Ytdoodmapmhibhaa
