/-
  Layer 44: contracts of greatest, Choice; the loops of the document's Feasible and Plan.
-/
import Derived.Test.YtaidlflnkdamkaaProg
import Derived.Test.YtaidlflnkdamkaaFvX
import Derived.Test.YtaidlflnkdamkaaFvZ
import Derived.Test.YtaidlflnkdamkaaAut
import Derived.Test.YtaidlflnkdamkaaRd
import Derived.Test.YtaidlflnkdamkaaAbA
import Derived.Test.YtaidlflnkdamkaaAbB
import Derived.Test.YtaidlflnkdamkaaAbM
import Derived.Test.YtaidlflnkdamkaaAbN
import Derived.Test.YtaidlflnkdamkaaAbC
import Derived.Test.YtaidlflnkdamkaaAbD
import Derived.Test.YtaidlflnkdamkaaAbE
import Derived.Test.YtaidlflnkdamkaaAbP
import Derived.Test.YtaidlflnkdamkaaAbF
import Derived.Test.YtaidlflnkdamkaaAbG
import Derived.Test.YtaidlflnkdamkaaAbH
import Derived.Test.YtaidlflnkdamkaaAbI
import Derived.Test.YtaidlflnkdamkaaAbK
import Derived.Test.YtaidlflnkdamkaaAbL
import Derived.Test.YtaidlflnkdamkaaAbQ
namespace Go.Proofs.Ytaidlflnkdamkaa
open Go
noncomputable def grt (L : BkL) (C : List Int) (e : Int) : List Int := (gre1_g (L, (L.length : Int)) (true, tab (L.length + 1) (mO L C e L.length))).2.2
set_option maxRecDepth 100000 in
theorem grec_tree (L : (Ty.list (.prod (.prod (.int .i64) (.prod (.int .i64) (.prod (.int .i64) (.int .i64)))) (.prod (.int .i64) (.prod (.int .i64) (.prod (.int .i64) (.int .i64)))))).den) (C : (Ty.list (.int .i64)).den) (e : Int) : evalF Try.prog abF_S62 (opens []) abK_L65 9 49 [.one (.d false false (.prod (.prod (.int .i64) (.prod (.int .i64) (.prod (.int .i64) (.int .i64)))) (.prod (.int .i64) (.prod (.int .i64) (.prod (.int .i64) (.int .i64))))) L), .one (.d false false (.int .i64) C), .one (.v false (.int .i64 e))] = .br (((gre0_cond (L, C, (↑(List.length L) : Int)) ((1 : Int), [e])) && ((Nat.beq (Prod.fst (gre0_g (L, C, (↑(List.length L) : Int)) ((1 : Int), [e]))) (0 : Nat)) && ((decide ((List.length (Prod.snd (Prod.snd (gre0_g (L, C, (↑(List.length L) : Int)) ((1 : Int), [e])))) + (1 : Nat)) * (8 : Nat) ≤ maxNew) && decide (List.length (Prod.snd (Prod.snd (gre0_g (L, C, (↑(List.length L) : Int)) ((1 : Int), [e])))) + (1 : Nat) ≤ maxLen)) && ((gre1_cond (L, (↑(List.length L) : Int)) (true, Prod.snd (Prod.snd (gre0_g (L, C, (↑(List.length L) : Int)) ((1 : Int), [e]))) ++ [(0 : Int)])) && (Nat.beq (Prod.fst (gre1_g (L, (↑(List.length L) : Int)) (true, Prod.snd (Prod.snd (gre0_g (L, C, (↑(List.length L) : Int)) ((1 : Int), [e]))) ++ [(0 : Int)]))) (0 : Nat))))))) (.ret (.one (.d false false (.int .i64) (Prod.snd (Prod.snd (gre1_g (L, (↑(List.length L) : Int)) (true, Prod.snd (Prod.snd (gre0_g (L, C, (↑(List.length L) : Int)) ((1 : Int), [e]))) ++ [(0 : Int)]))))))) (.bad 116) := by kernel_rfl
theorem grec_val (L : (Ty.list (.prod (.prod (.int .i64) (.prod (.int .i64) (.prod (.int .i64) (.int .i64)))) (.prod (.int .i64) (.prod (.int .i64) (.prod (.int .i64) (.int .i64)))))).den) (C : (Ty.list (.int .i64)).den) (e : Int) (hc : (chOk L C e) = true) : (.br (((gre0_cond (L, C, (↑(List.length L) : Int)) ((1 : Int), [e])) && ((Nat.beq (Prod.fst (gre0_g (L, C, (↑(List.length L) : Int)) ((1 : Int), [e]))) (0 : Nat)) && ((decide ((List.length (Prod.snd (Prod.snd (gre0_g (L, C, (↑(List.length L) : Int)) ((1 : Int), [e])))) + (1 : Nat)) * (8 : Nat) ≤ maxNew) && decide (List.length (Prod.snd (Prod.snd (gre0_g (L, C, (↑(List.length L) : Int)) ((1 : Int), [e])))) + (1 : Nat) ≤ maxLen)) && ((gre1_cond (L, (↑(List.length L) : Int)) (true, Prod.snd (Prod.snd (gre0_g (L, C, (↑(List.length L) : Int)) ((1 : Int), [e]))) ++ [(0 : Int)])) && (Nat.beq (Prod.fst (gre1_g (L, (↑(List.length L) : Int)) (true, Prod.snd (Prod.snd (gre0_g (L, C, (↑(List.length L) : Int)) ((1 : Int), [e]))) ++ [(0 : Int)]))) (0 : Nat))))))) (.ret (.one (.d false false (.int .i64) (Prod.snd (Prod.snd (gre1_g (L, (↑(List.length L) : Int)) (true, Prod.snd (Prod.snd (gre0_g (L, C, (↑(List.length L) : Int)) ((1 : Int), [e]))) ++ [(0 : Int)]))))))) (.bad 116) : Tr AV).val = some (.one (.d false false (.int .i64) (grt L C e))) := by
  have hk : ChOk L C e := @of_decide_eq_true _ (Classical.propDecidable _) hc
  have n1 := hk.n1
  have n40 := hk.n40
  obtain ⟨r1, r2⟩ := gre0_run hk
  obtain ⟨r3, G, b, r4, _⟩ := gre1_run hk
  have e0 : tab L.length (mO L C e L.length) ++ [(0 : Int)] = tab (L.length + 1) (mO L C e L.length) := by
    rw [tab_succ]
    have : mO L C e L.length L.length = 0 := by unfold mO; rw [if_neg (by omega), if_neg (by omega)]
    rw [this]
  have c6 : (decide ((L.length + 1) * 8 ≤ maxNew) && decide (L.length + 1 ≤ maxLen)) = true := by simp only [Bool.and_eq_true, decide_eq_true_eq]; exact ⟨by simp [maxNew]; omega, by simp [maxLen]; omega⟩
  have z0 : Nat.beq 0 0 = true := rfl
  unfold grt
  simp only [r1, r2, tab_length, c6, e0, r3, r4, z0, Bool.and_self, Tr.val, cond_true]
noncomputable def grec_g : List AV → Option (Tr AV)
  | [.one (.d _ _ (.prod (.prod (.int .i64) (.prod (.int .i64) (.prod (.int .i64) (.int .i64)))) (.prod (.int .i64) (.prod (.int .i64) (.prod (.int .i64) (.int .i64))))) L), .one (.d _ _ (.int .i64) C), .one (.v _ (.int .i64 e))] => some (.br (chOk L C e) (.ret (.one (.d false false (.int .i64) (grt L C e)))) (.bad 900))
  | _ => none
set_option maxHeartbeats 4000000 in
theorem grec_ok : FunOK Try.prog 49 grec_g := by
  refine fun_ok (by kernel_rfl) (abF_S62_ok) (abK_L65_ok) 9 (On := (opens [])) (fun args t h => ?_)
  unfold grec_g at h
  split at h
  · rename_i _ _ L _ _ C _ e
    simp only [Option.some.injEq] at h
    subst h
    refine ⟨[.one (.d false false (.prod (.prod (.int .i64) (.prod (.int .i64) (.prod (.int .i64) (.int .i64)))) (.prod (.int .i64) (.prod (.int .i64) (.prod (.int .i64) (.int .i64))))) L), .one (.d false false (.int .i64) C), .one (.v false (.int .i64 e))], rfl, fun fr w us h => h, fun r hr => ?_⟩
    obtain ⟨hc, hr⟩ := br_bad hr
    simp only [Tr.val, Option.some.injEq] at hr
    subst hr
    rw [grec_tree]
    exact grec_val L C e hc
  · cases h
noncomputable def abR_S61 : Sums := addS 49 grec_g abF_S62
theorem abR_S61_ok : SumOK Try.prog abR_S61 := addS_ok (grec_ok) (abF_S62_ok)
set_option maxRecDepth 100000 in
theorem rccc_tree (L : (Ty.list (.prod (.prod (.int .i64) (.prod (.int .i64) (.prod (.int .i64) (.int .i64)))) (.prod (.int .i64) (.prod (.int .i64) (.prod (.int .i64) (.int .i64)))))).den) (C : (Ty.list (.int .i64)).den) (e : Int) (s : (Ty.list (.int .i64)).den) : evalF Try.prog abR_S61 (opens []) abK_L65 9 43 [.one (.d false false (.prod (.prod (.int .i64) (.prod (.int .i64) (.prod (.int .i64) (.int .i64)))) (.prod (.int .i64) (.prod (.int .i64) (.prod (.int .i64) (.int .i64))))) L), .one (.d false false (.int .i64) C), .one (.v false (.int .i64 e)), .one (.d false false (.int .i64) s)] = .br (((decide ((0 : Int) ≤ (0 : Int)) && decide ((0 : Int) < (↑(List.length s) : Int))) && (((bif el_i s (0 : Int) != e then true else (decide ((0 : Int) ≤ (↑(List.length L) : Int)) && decide ((↑(List.length L) : Int) < (↑(List.length s) : Int))))) && (bif bif el_i s (0 : Int) != e then true else el_i s (↑(List.length L) : Int) != (0 : Int) then true else ((rcc_cond (L, C, s, (↑(List.length L) : Int)) (false, (0 : Int))) && (bif Nat.beq (Prod.fst (rcc_g (L, C, s, (↑(List.length L) : Int)) (false, (0 : Int)))) (0 : Nat) then true else (Nat.beq (Prod.fst (rcc_g (L, C, s, (↑(List.length L) : Int)) (false, (0 : Int)))) (1 : Nat)))))))) (.ret (.one (.v false (.bool (bif bif el_i s (0 : Int) != e then true else el_i s (↑(List.length L) : Int) != (0 : Int) then false else bif Nat.beq (Prod.fst (rcc_g (L, C, s, (↑(List.length L) : Int)) (false, (0 : Int)))) (0 : Nat) then Prod.fst (Prod.snd (rcc_g (L, C, s, (↑(List.length L) : Int)) (false, (0 : Int)))) else true))))) (.bad 116) := by kernel_rfl
theorem rccc_val (L : (Ty.list (.prod (.prod (.int .i64) (.prod (.int .i64) (.prod (.int .i64) (.int .i64)))) (.prod (.int .i64) (.prod (.int .i64) (.prod (.int .i64) (.int .i64)))))).den) (C : (Ty.list (.int .i64)).den) (e : Int) (s : (Ty.list (.int .i64)).den) (hc : (choK L C s) = true) : (.br (((decide ((0 : Int) ≤ (0 : Int)) && decide ((0 : Int) < (↑(List.length s) : Int))) && (((bif el_i s (0 : Int) != e then true else (decide ((0 : Int) ≤ (↑(List.length L) : Int)) && decide ((↑(List.length L) : Int) < (↑(List.length s) : Int))))) && (bif bif el_i s (0 : Int) != e then true else el_i s (↑(List.length L) : Int) != (0 : Int) then true else ((rcc_cond (L, C, s, (↑(List.length L) : Int)) (false, (0 : Int))) && (bif Nat.beq (Prod.fst (rcc_g (L, C, s, (↑(List.length L) : Int)) (false, (0 : Int)))) (0 : Nat) then true else (Nat.beq (Prod.fst (rcc_g (L, C, s, (↑(List.length L) : Int)) (false, (0 : Int)))) (1 : Nat)))))))) (.ret (.one (.v false (.bool (bif bif el_i s (0 : Int) != e then true else el_i s (↑(List.length L) : Int) != (0 : Int) then false else bif Nat.beq (Prod.fst (rcc_g (L, C, s, (↑(List.length L) : Int)) (false, (0 : Int)))) (0 : Nat) then Prod.fst (Prod.snd (rcc_g (L, C, s, (↑(List.length L) : Int)) (false, (0 : Int)))) else true))))) (.bad 116) : Tr AV).val = some (.one (.v false (.bool (choB L C e s)))) := by
  unfold choK at hc
  simp only [Bool.and_eq_true, decide_eq_true_eq] at hc
  obtain ⟨n1, n40, hC, hs⟩ := hc
  obtain ⟨r1, k, i, r2, r3⟩ := rcc_run n40 hC hs
  have c1 : (decide ((0 : Int) ≤ (0 : Int)) && decide ((0 : Int) < (s.length : Int))) = true := by simp only [Bool.and_eq_true, decide_eq_true_eq]; omega
  have c2 : (decide ((0 : Int) ≤ (L.length : Int)) && decide ((L.length : Int) < (s.length : Int))) = true := by simp only [Bool.and_eq_true, decide_eq_true_eq]; omega
  have f1 : el_i s (0 : Int) = sI s 0 := elm_nat (.int .i64) s 0
  have f2 : el_i s (L.length : Int) = sI s L.length := elm_nat (.int .i64) s L.length
  simp only [c1, c2, f1, f2, r1, r2, Tr.val, Bool.true_and]
  unfold choB
  subst r3
  generalize anyN (chV L C s) (L.length + 1) = z
  cases (sI s 0 != e) <;> cases (sI s L.length != 0) <;> cases z <;> rfl
noncomputable def rccc_g : List AV → Option (Tr AV)
  | [.one (.d _ _ (.prod (.prod (.int .i64) (.prod (.int .i64) (.prod (.int .i64) (.int .i64)))) (.prod (.int .i64) (.prod (.int .i64) (.prod (.int .i64) (.int .i64))))) L), .one (.d _ _ (.int .i64) C), .one (.v _ (.int .i64 e)), .one (.d _ _ (.int .i64) s)] => some (.br (choK L C s) (.ret (.one (.v false (.bool (choB L C e s))))) (.bad 900))
  | _ => none
set_option maxHeartbeats 4000000 in
theorem rccc_ok : FunOK Try.prog 43 rccc_g := by
  refine fun_ok (by kernel_rfl) (abR_S61_ok) (abK_L65_ok) 9 (On := (opens [])) (fun args t h => ?_)
  unfold rccc_g at h
  split at h
  · rename_i _ _ L _ _ C _ e _ _ s
    simp only [Option.some.injEq] at h
    subst h
    refine ⟨[.one (.d false false (.prod (.prod (.int .i64) (.prod (.int .i64) (.prod (.int .i64) (.int .i64)))) (.prod (.int .i64) (.prod (.int .i64) (.prod (.int .i64) (.int .i64))))) L), .one (.d false false (.int .i64) C), .one (.v false (.int .i64 e)), .one (.d false false (.int .i64) s)], rfl, fun fr w us h => h, fun r hr => ?_⟩
    obtain ⟨hc, hr⟩ := br_bad hr
    simp only [Tr.val, Option.some.injEq] at hr
    subst hr
    rw [rccc_tree]
    exact rccc_val L C e s hc
  · cases h
noncomputable def abR_S62 : Sums := addS 43 rccc_g abR_S61
theorem abR_S62_ok : SumOK Try.prog abR_S62 := addS_ok (rccc_ok) (abR_S61_ok)
abbrev rfe_U : Type := (Ty.list (.prod (.prod (.int .i64) (.prod (.int .i64) (.prod (.int .i64) (.int .i64)))) (.prod (.int .i64) (.prod (.int .i64) (.prod (.int .i64) (.int .i64)))))).den × (Ty.list (.int .i64)).den × Int × (Ty.list (.prod (.prod (.int .i64) (.prod (.int .i64) (.prod (.int .i64) (.int .i64)))) (.prod (.int .i64) (.prod (.int .i64) (.prod (.int .i64) (.int .i64)))))).den × Int
abbrev rfe_V : Type := Bool × Int × (Ty.list (.int .i64)).den
noncomputable def rfe_St (u : rfe_U) (v : rfe_V) : Stt := ⟨[.one (.d false false (.prod (.prod (.int .i64) (.prod (.int .i64) (.prod (.int .i64) (.int .i64)))) (.prod (.int .i64) (.prod (.int .i64) (.prod (.int .i64) (.int .i64))))) u.1), .one (.d false false (.int .i64) u.2.1), .one (.v false (.int .i64 u.2.2.1)), .one .junk, .one .junk, .one .junk, .one (.v false (.bool v.1)), .one (.s false 980 0 (none)), .one .junk, .one .junk, .one .junk, .one .junk, .one .junk, .one .junk, .one .junk, .one .junk, .one .junk, .one .junk, .one .junk, .one .junk, .one .junk, .one .junk, .one .junk, .one (.d false false (.prod (.prod (.int .i64) (.prod (.int .i64) (.prod (.int .i64) (.int .i64)))) (.prod (.int .i64) (.prod (.int .i64) (.prod (.int .i64) (.int .i64))))) u.2.2.2.1), .one (.v false (.int .i64 u.2.2.2.2)), .one (.v false (.int .i64 v.2.1)), .one .junk, .one .junk, .one .junk, .one .junk, .one .junk, .one .junk, .one .junk, .one .junk, .one .junk, .one .junk, .one .junk, .one .junk, .one .junk, .one .junk, .one .junk, .one .junk, .one .junk, .one .junk, .one .junk, .one .junk, .one .junk, .one .junk, .one .junk, .one .junk, .one .junk, .one .junk, .one .junk, .one .junk, .one .junk, .one .junk, .one .junk, .one .junk, .one .junk], [(13, .dead), (980, .row true false false 3 (.int .i64) v.2.2)], 1018⟩
noncomputable def rfe_step (u : rfe_U) (v : rfe_V) : Tr (rfe_V ⊕ (Nat × rfe_V)) :=
  match u, v with
  | (q0, _, _, q4, q5), (q3, q6, q7) => .br (decide (q6 < q5)) (.br (decide ((0 : Int) ≤ q6) && decide (q6 < (↑(List.length q4) : Int))) (.br ((bif !bval (Prod.fst (Prod.fst (el_iiiiiiii q4 q6))) (Prod.fst (Prod.snd (Prod.fst (el_iiiiiiii q4 q6)))) (Prod.fst (Prod.snd (Prod.snd (Prod.fst (el_iiiiiiii q4 q6))))) (Prod.snd (Prod.snd (Prod.snd (Prod.fst (el_iiiiiiii q4 q6))))) (Prod.fst (Prod.snd (el_iiiiiiii q4 q6))) (Prod.fst (Prod.snd (Prod.snd (el_iiiiiiii q4 q6)))) (Prod.fst (Prod.snd (Prod.snd (Prod.snd (el_iiiiiiii q4 q6))))) (Prod.snd (Prod.snd (Prod.snd (Prod.snd (el_iiiiiiii q4 q6))))) then true else (bif decide (q6 > (0 : Int)) then (decide ((0 : Int) ≤ IntKind.wrap IntKind.i64 (q6 - (1 : Int))) && decide (IntKind.wrap IntKind.i64 (q6 - (1 : Int)) < (↑(List.length q0) : Int))) else true))) (.br (bif !bval (Prod.fst (Prod.fst (el_iiiiiiii q4 q6))) (Prod.fst (Prod.snd (Prod.fst (el_iiiiiiii q4 q6)))) (Prod.fst (Prod.snd (Prod.snd (Prod.fst (el_iiiiiiii q4 q6))))) (Prod.snd (Prod.snd (Prod.snd (Prod.fst (el_iiiiiiii q4 q6))))) (Prod.fst (Prod.snd (el_iiiiiiii q4 q6))) (Prod.fst (Prod.snd (Prod.snd (el_iiiiiiii q4 q6)))) (Prod.fst (Prod.snd (Prod.snd (Prod.snd (el_iiiiiiii q4 q6))))) (Prod.snd (Prod.snd (Prod.snd (Prod.snd (el_iiiiiiii q4 q6))))) then true else bif decide (q6 > (0 : Int)) then Prod.fst (Prod.snd (Prod.snd (el_iiiiiiii q4 q6))) != Prod.snd (Prod.snd (Prod.snd (Prod.snd (el_iiiiiiii q0 (IntKind.wrap IntKind.i64 (q6 - (1 : Int))))))) else false) (.ret (.inr (0, (false, q6, q7)))) (.br (decide ((List.length q7 + (1 : Nat)) * (8 : Nat) ≤ maxNew) && decide (List.length q7 + (1 : Nat) ≤ maxLen)) (.ret (.inl (q3, IntKind.wrap IntKind.i64 (q6 + (1 : Int)), q7 ++ [Prod.snd (Prod.snd (Prod.snd (Prod.snd (el_iiiiiiii q4 q6))))]))) (.bad 71))) (.bad 117)) (.bad 29)) (.ret (.inr (1, (q3, q6, q7))))
set_option maxRecDepth 100000 in
set_option maxHeartbeats 4000000 in
theorem rfe_step_eq : ∀ (u : rfe_U) (v : rfe_V), (evalC Try.prog (evalB Try.prog abR_S62 (opens []) abK_L65 7).1 (evalB Try.prog abR_S62 (opens []) abK_L65 7).2 (opens []) (abK_L65 17) 100000 (0 :: [0, 1, 0, 1, 1, 1, 1]) (loopOf (bodyOf Try.prog 17) [1, 1, 1, 1, 0, 1, 0]) (rfe_St u v) []).bind (finF [3, 4, 5, 8, 9, 10, 11, 12, 13, 14, 15, 16, 17, 18, 19, 20, 21, 22, 26, 27, 28, 29, 30, 31, 32, 33, 34, 35, 36, 37, 38, 39, 40, 41, 42, 43, 44, 45, 46, 47, 48, 49, 50, 51, 52, 53, 54, 55, 56, 57, 58] [⟨980, some 7, 0, 0, 3, (.int .i64)⟩] [13, 980] [13, 1047] 1018) = (rfe_step u v).bind (outA (rfe_St u) [.ret, .exit 0]) := by
  rintro ⟨q0, q1, q2, q4, q5⟩ ⟨q3, q6, q7⟩
  kernel_rfl
noncomputable def rfe_rd (b : Bool) (o0 : Option AV) (o1 : Option AV) (o2 : Option AV) (o6 : Option AV) (o7 : Option AV) (o23 : Option AV) (o24 : Option AV) (o25 : Option AV) (own : Own) : Option (rfe_U × rfe_V) := zrT b <| zrO o0 fun za1 => zrA1 za1 fun zc2 => zrD (.prod (.prod (.int .i64) (.prod (.int .i64) (.prod (.int .i64) (.int .i64)))) (.prod (.int .i64) (.prod (.int .i64) (.prod (.int .i64) (.int .i64))))) zc2 fun q0 => zrO o1 fun za3 => zrA1 za3 fun zc4 => zrD (.int .i64) zc4 fun q1 => zrO o2 fun za5 => zrA1 za5 fun zc6 => zrI .i64 zc6 fun q2 => zrO o6 fun za7 => zrA1 za7 fun zc8 => zrB zc8 fun q3 => zrO o7 fun za9 => zrA1 za9 fun zc10 => zrSl 980 0 (none) zc10 <| zrO o23 fun za11 => zrA1 za11 fun zc12 => zrD (.prod (.prod (.int .i64) (.prod (.int .i64) (.prod (.int .i64) (.int .i64)))) (.prod (.int .i64) (.prod (.int .i64) (.prod (.int .i64) (.int .i64))))) zc12 fun q4 => zrO o24 fun za13 => zrA1 za13 fun zc14 => zrI .i64 zc14 fun q5 => zrO o25 fun za15 => zrA1 za15 fun zc16 => zrI .i64 zc16 fun q6 => zrL own fun zq17 zw18 => zrKey 13 zq17 fun zk19 => zrX zk19 <| zrL zw18 fun zq20 zw21 => zrKey 980 zq20 fun zk22 => zrR true 3 (.int .i64) zk22 fun q7 => zrN zw21 <| some ((q0, q1, q2, q4, q5), (q3, q6, q7))
noncomputable def rfe_can (st : Stt) : Stt := canA [3, 4, 5, 8, 9, 10, 11, 12, 13, 14, 15, 16, 17, 18, 19, 20, 21, 22, 26, 27, 28, 29, 30, 31, 32, 33, 34, 35, 36, 37, 38, 39, 40, 41, 42, 43, 44, 45, 46, 47, 48, 49, 50, 51, 52, 53, 54, 55, 56, 57, 58] [⟨980, some 7, 0, 0, 3, (.int .i64)⟩] [13, 980] [13, 1047] 1018 st
noncomputable def rfe_cok (st : Stt) : Bool := canAok [3, 4, 5, 8, 9, 10, 11, 12, 13, 14, 15, 16, 17, 18, 19, 20, 21, 22, 26, 27, 28, 29, 30, 31, 32, 33, 34, 35, 36, 37, 38, 39, 40, 41, 42, 43, 44, 45, 46, 47, 48, 49, 50, 51, 52, 53, 54, 55, 56, 57, 58] [⟨980, some 7, 0, 0, 3, (.int .i64)⟩] [13, 980] [13, 1047] 1018 st
noncomputable def rfe_read (st : Stt) : Option (rfe_U × rfe_V) := rfe_rd (rfe_cok st && (staysA [⟨980, some 7, 0, 0, 3, (.int .i64)⟩] [13, 980] st.own && juAll [3, 4, 5, 8, 9, 10, 11, 12, 13, 14, 15, 16, 17, 18, 19, 20, 21, 22, 26, 27, 28, 29, 30, 31, 32, 33, 34, 35, 36, 37, 38, 39, 40, 41, 42, 43, 44, 45, 46, 47, 48, 49, 50, 51, 52, 53, 54, 55, 56, 57, 58] (rfe_can st).tm 59)) (rfe_can st).tm[0]? (rfe_can st).tm[1]? (rfe_can st).tm[2]? (rfe_can st).tm[6]? (rfe_can st).tm[7]? (rfe_can st).tm[23]? (rfe_can st).tm[24]? (rfe_can st).tm[25]? (rfe_can st).own
set_option maxRecDepth 100000 in
set_option maxHeartbeats 4000000 in
theorem rfe_rd_ok {b : Bool} {tm : List AV} {own : Own} {u : rfe_U} {v : rfe_V} (hj : b = true → juAll [3, 4, 5, 8, 9, 10, 11, 12, 13, 14, 15, 16, 17, 18, 19, 20, 21, 22, 26, 27, 28, 29, 30, 31, 32, 33, 34, 35, 36, 37, 38, 39, 40, 41, 42, 43, 44, 45, 46, 47, 48, 49, 50, 51, 52, 53, 54, 55, 56, 57, 58] tm 59 = true) (h : rfe_rd b tm[0]? tm[1]? tm[2]? tm[6]? tm[7]? tm[23]? tm[24]? tm[25]? own = some (u, v)) : b = true ∧ tm = (rfe_St u v).tm ∧ own = (rfe_St u v).own := by
  unfold rfe_rd at h
  obtain ⟨rfl, h0⟩ := zrT_some h
  obtain ⟨za1, e0, h1⟩ := zrO_some h0
  obtain ⟨zc2, rfl, h2⟩ := zrA1_some h1
  obtain ⟨q0, rfl, h3⟩ := zrD_some h2
  obtain ⟨za3, e1, h4⟩ := zrO_some h3
  obtain ⟨zc4, rfl, h5⟩ := zrA1_some h4
  obtain ⟨q1, rfl, h6⟩ := zrD_some h5
  obtain ⟨za5, e2, h7⟩ := zrO_some h6
  obtain ⟨zc6, rfl, h8⟩ := zrA1_some h7
  obtain ⟨q2, rfl, h9⟩ := zrI_some h8
  obtain ⟨za7, e6, h10⟩ := zrO_some h9
  obtain ⟨zc8, rfl, h11⟩ := zrA1_some h10
  obtain ⟨q3, rfl, h12⟩ := zrB_some h11
  obtain ⟨za9, e7, h13⟩ := zrO_some h12
  obtain ⟨zc10, rfl, h14⟩ := zrA1_some h13
  obtain ⟨rfl, h15⟩ := zrSl_some h14
  obtain ⟨za11, e23, h16⟩ := zrO_some h15
  obtain ⟨zc12, rfl, h17⟩ := zrA1_some h16
  obtain ⟨q4, rfl, h18⟩ := zrD_some h17
  obtain ⟨za13, e24, h19⟩ := zrO_some h18
  obtain ⟨zc14, rfl, h20⟩ := zrA1_some h19
  obtain ⟨q5, rfl, h21⟩ := zrI_some h20
  obtain ⟨za15, e25, h22⟩ := zrO_some h21
  obtain ⟨zc16, rfl, h23⟩ := zrA1_some h22
  obtain ⟨q6, rfl, h24⟩ := zrI_some h23
  obtain ⟨zq17, zw18, rfl, h25⟩ := zrL_some h24
  obtain ⟨zk19, rfl, h26⟩ := zrKey_some h25
  obtain ⟨rfl, h27⟩ := zrX_some h26
  obtain ⟨zq20, zw21, rfl, h28⟩ := zrL_some h27
  obtain ⟨zk22, rfl, h29⟩ := zrKey_some h28
  obtain ⟨q7, rfl, h30⟩ := zrR_some h29
  obtain ⟨rfl, h31⟩ := zrN_some h30
  have h := Option.some.inj h31
  have hu := congrArg Prod.fst h
  have hv := congrArg Prod.snd h
  dsimp only at hu hv
  subst hu
  subst hv
  exact ⟨rfl, (tm_fill (hj rfl) (Lv := [(0, .one (.d false false (.prod (.prod (.int .i64) (.prod (.int .i64) (.prod (.int .i64) (.int .i64)))) (.prod (.int .i64) (.prod (.int .i64) (.prod (.int .i64) (.int .i64))))) q0)), (1, .one (.d false false (.int .i64) q1)), (2, .one (.v false (.int .i64 q2))), (6, .one (.v false (.bool q3))), (7, .one (.s false 980 0 (none))), (23, .one (.d false false (.prod (.prod (.int .i64) (.prod (.int .i64) (.prod (.int .i64) (.int .i64)))) (.prod (.int .i64) (.prod (.int .i64) (.prod (.int .i64) (.int .i64))))) q4)), (24, .one (.v false (.int .i64 q5))), (25, .one (.v false (.int .i64 q6)))]) (by kernel_rfl) ⟨e0, e1, e2, e6, e7, e23, e24, e25, trivial⟩).trans (by kernel_rfl), rfl⟩
theorem rfe_read_ok (st : Stt) (u : rfe_U) (v : rfe_V) (h : rfe_read st = some (u, v)) : rfe_cok st = true ∧ staysA [⟨980, some 7, 0, 0, 3, (.int .i64)⟩] [13, 980] st.own = true ∧ rfe_can st = rfe_St u v := by
  obtain ⟨h1, h2, h3⟩ := rfe_rd_ok (fun hb => by rw [Bool.and_eq_true, Bool.and_eq_true] at hb; exact hb.2.2) h
  rw [Bool.and_eq_true, Bool.and_eq_true] at h1
  refine ⟨h1.1, h1.2.1, ?_⟩
  have e : rfe_can st = ⟨(rfe_can st).tm, (rfe_can st).own, 1018⟩ := by kernel_rfl
  rw [e, h2, h3]
  rfl
noncomputable def rfe_cond (u : rfe_U) (v : rfe_V) : Bool := runC (rfe_step u) v
noncomputable def rfe_g (u : rfe_U) (v : rfe_V) : Nat × rfe_V := runG (rfe_step u) v
theorem rfe_hg : ∀ (u : rfe_U) (v : rfe_V), rfe_cond u v = true → loopN (rfe_step u) ((fun u v => runF (rfe_step u) v) u v) v = some (rfe_g u v) := by
  exact fun u v h => run_hg h
noncomputable def rfe_m (st : Stt) : Option (Tr (Ex × Stt)) := sumM rfe_read rfe_cond rfe_St rfe_g [(0, .ret), (1, .exit 0)] st
noncomputable def abR_L63 : FuncId → Loops := addL 17 [0, 1, 0, 1, 1, 1, 1] rfe_m abK_L65
set_option maxRecDepth 100000 in
set_option maxHeartbeats 4000000 in
theorem abR_L63_ok : LoopsOK Try.prog abR_L63 :=
  loop_sumF (body := (bodyOf Try.prog 17)) (c := (loopOf (bodyOf Try.prog 17) [1, 1, 1, 1, 0, 1, 0])) (kinds := [.ret, .exit 0]) (allow := [(0, .ret), (1, .exit 0)]) (St := rfe_St) (step := rfe_step) (W := [3, 4, 5, 8, 9, 10, 11, 12, 13, 14, 15, 16, 17, 18, 19, 20, 21, 22, 26, 27, 28, 29, 30, 31, 32, 33, 34, 35, 36, 37, 38, 39, 40, 41, 42, 43, 44, 45, 46, 47, 48, 49, 50, 51, 52, 53, 54, 55, 56, 57, 58]) (As := [⟨980, some 7, 0, 0, 3, (.int .i64)⟩]) (ks := [13, 980]) (dd := [13, 1047]) (nx := 1018) (n := 100000) (g := rfe_g) (cond := rfe_cond) (fuel := (fun u v => runF (rfe_step u) v)) (read := rfe_read) (by kernel_rfl) (abR_S62_ok) (abK_L65_ok) 7 ⟨Try.f17, by kernel_rfl, by kernel_rfl⟩ (by kernel_rfl) (by kernel_rfl) (by kernel_rfl) rfe_step_eq rfe_hg rfe_read_ok
abbrev rpl0_U : Type := (Ty.list (.prod (.prod (.int .i64) (.prod (.int .i64) (.prod (.int .i64) (.int .i64)))) (.prod (.int .i64) (.prod (.int .i64) (.prod (.int .i64) (.int .i64)))))).den × (Ty.list (.int .i64)).den × Int × (Ty.list (.prod (.prod (.int .i64) (.prod (.int .i64) (.prod (.int .i64) (.int .i64)))) (.prod (.int .i64) (.prod (.int .i64) (.prod (.int .i64) (.int .i64)))))).den × Int
abbrev rpl0_V : Type := Int × Int
noncomputable def rpl0_St (u : rpl0_U) (v : rpl0_V) : Stt := ⟨[.one (.d false false (.prod (.prod (.int .i64) (.prod (.int .i64) (.prod (.int .i64) (.int .i64)))) (.prod (.int .i64) (.prod (.int .i64) (.prod (.int .i64) (.int .i64))))) u.1), .one (.d false false (.int .i64) u.2.1), .one (.v false (.int .i64 u.2.2.1)), .one .junk, .one .junk, .one .junk, .one (.v false (Value.slice none (0 : Nat) (0 : Nat))), .one (.v false (.int .i64 v.1)), .one .junk, .one .junk, .one .junk, .one .junk, .one .junk, .one (.d false false (.prod (.prod (.int .i64) (.prod (.int .i64) (.prod (.int .i64) (.int .i64)))) (.prod (.int .i64) (.prod (.int .i64) (.prod (.int .i64) (.int .i64))))) u.2.2.2.1), .one (.v false (.int .i64 u.2.2.2.2)), .one (.v false (.int .i64 v.2)), .one .junk, .one .junk, .one .junk, .one .junk, .one .junk, .one .junk, .one .junk, .one .junk, .one .junk, .one .junk, .one .junk, .one .junk, .one .junk, .one .junk, .one .junk, .one .junk, .one .junk, .one .junk, .one .junk, .one .junk, .one .junk, .one .junk, .one .junk, .one .junk, .one .junk, .one .junk, .one .junk, .one .junk, .one .junk, .one .junk, .one .junk, .one .junk, .one .junk, .one .junk, .one .junk, .one .junk, .one .junk, .one .junk, .one .junk, .one .junk, .one .junk, .one .junk, .one .junk, .one .junk, .one .junk, .one .junk, .one .junk, .one .junk, .one .junk, .one .junk, .one .junk, .one .junk, .one .junk, .one .junk, .one .junk, .one .junk, .one .junk, .one .junk, .one .junk, .one .junk, .one .junk, .one .junk, .one .junk, .one .junk, .one .junk, .one .junk, .one .junk, .one .junk, .one .junk], [], 1005⟩
noncomputable def rpl0_step (u : rpl0_U) (v : rpl0_V) : Tr (rpl0_V ⊕ (Nat × rpl0_V)) :=
  match u, v with
  | (_, _, _, q4, q5), (q3, q6) => .br (decide (q6 < q5)) (.br (decide ((0 : Int) ≤ q6) && decide (q6 < (↑(List.length q4) : Int))) (.br (!sval (Prod.fst (Prod.fst (el_iiiiiiii q4 q6))) (Prod.fst (Prod.snd (Prod.fst (el_iiiiiiii q4 q6)))) (Prod.fst (Prod.snd (Prod.snd (Prod.fst (el_iiiiiiii q4 q6))))) (Prod.snd (Prod.snd (Prod.snd (Prod.fst (el_iiiiiiii q4 q6))))) (Prod.fst (Prod.snd (el_iiiiiiii q4 q6))) (Prod.fst (Prod.snd (Prod.snd (Prod.snd (el_iiiiiiii q4 q6)))))) (.ret (.inr (0, (1, q6)))) (.ret (.inl (q3, IntKind.wrap IntKind.i64 (q6 + (1 : Int)))))) (.bad 29)) (.ret (.inr (1, (q3, q6))))
set_option maxRecDepth 100000 in
set_option maxHeartbeats 4000000 in
theorem rpl0_step_eq : ∀ (u : rpl0_U) (v : rpl0_V), (evalC Try.prog (evalB Try.prog abR_S62 (opens []) abR_L63 7).1 (evalB Try.prog abR_S62 (opens []) abR_L63 7).2 (opens []) (abR_L63 19) 100000 (0 :: [0, 1, 0, 1]) (loopOf (bodyOf Try.prog 19) [1, 0, 1, 0]) (rpl0_St u v) []).bind (finF [3, 4, 5, 8, 9, 10, 11, 12, 16, 17, 18, 19, 20, 21, 22, 23, 24, 25, 26, 27, 28, 29, 30, 31, 32, 33, 34, 35, 36, 37, 38, 39, 40, 41, 42, 43, 44, 45, 46, 47, 48, 49, 50, 51, 52, 53, 54, 55, 56, 57, 58, 59, 60, 61, 62, 63, 64, 65, 66, 67, 68, 69, 70, 71, 72, 73, 74, 75, 76, 77, 78, 79, 80, 81, 82, 83, 84] [] [] [] 1005) = (rpl0_step u v).bind (outA (rpl0_St u) [.ret, .exit 0]) := by
  rintro ⟨q0, q1, q2, q4, q5⟩ ⟨q3, q6⟩
  kernel_rfl
noncomputable def rpl0_rd (b : Bool) (o0 : Option AV) (o1 : Option AV) (o2 : Option AV) (o6 : Option AV) (o7 : Option AV) (o13 : Option AV) (o14 : Option AV) (o15 : Option AV) (own : Own) : Option (rpl0_U × rpl0_V) := zrT b <| zrO o0 fun za1 => zrA1 za1 fun zc2 => zrD (.prod (.prod (.int .i64) (.prod (.int .i64) (.prod (.int .i64) (.int .i64)))) (.prod (.int .i64) (.prod (.int .i64) (.prod (.int .i64) (.int .i64))))) zc2 fun q0 => zrO o1 fun za3 => zrA1 za3 fun zc4 => zrD (.int .i64) zc4 fun q1 => zrO o2 fun za5 => zrA1 za5 fun zc6 => zrI .i64 zc6 fun q2 => zrO o6 fun za7 => zrA1 za7 fun zc8 => zrNil zc8 <| zrO o7 fun za9 => zrA1 za9 fun zc10 => zrI .i64 zc10 fun q3 => zrO o13 fun za11 => zrA1 za11 fun zc12 => zrD (.prod (.prod (.int .i64) (.prod (.int .i64) (.prod (.int .i64) (.int .i64)))) (.prod (.int .i64) (.prod (.int .i64) (.prod (.int .i64) (.int .i64))))) zc12 fun q4 => zrO o14 fun za13 => zrA1 za13 fun zc14 => zrI .i64 zc14 fun q5 => zrO o15 fun za15 => zrA1 za15 fun zc16 => zrI .i64 zc16 fun q6 => zrN own <| some ((q0, q1, q2, q4, q5), (q3, q6))
noncomputable def rpl0_can (st : Stt) : Stt := canA [3, 4, 5, 8, 9, 10, 11, 12, 16, 17, 18, 19, 20, 21, 22, 23, 24, 25, 26, 27, 28, 29, 30, 31, 32, 33, 34, 35, 36, 37, 38, 39, 40, 41, 42, 43, 44, 45, 46, 47, 48, 49, 50, 51, 52, 53, 54, 55, 56, 57, 58, 59, 60, 61, 62, 63, 64, 65, 66, 67, 68, 69, 70, 71, 72, 73, 74, 75, 76, 77, 78, 79, 80, 81, 82, 83, 84] [] [] [] 1005 st
noncomputable def rpl0_cok (st : Stt) : Bool := canAok [3, 4, 5, 8, 9, 10, 11, 12, 16, 17, 18, 19, 20, 21, 22, 23, 24, 25, 26, 27, 28, 29, 30, 31, 32, 33, 34, 35, 36, 37, 38, 39, 40, 41, 42, 43, 44, 45, 46, 47, 48, 49, 50, 51, 52, 53, 54, 55, 56, 57, 58, 59, 60, 61, 62, 63, 64, 65, 66, 67, 68, 69, 70, 71, 72, 73, 74, 75, 76, 77, 78, 79, 80, 81, 82, 83, 84] [] [] [] 1005 st
noncomputable def rpl0_read (st : Stt) : Option (rpl0_U × rpl0_V) := rpl0_rd (rpl0_cok st && (staysA [] [] st.own && juAll [3, 4, 5, 8, 9, 10, 11, 12, 16, 17, 18, 19, 20, 21, 22, 23, 24, 25, 26, 27, 28, 29, 30, 31, 32, 33, 34, 35, 36, 37, 38, 39, 40, 41, 42, 43, 44, 45, 46, 47, 48, 49, 50, 51, 52, 53, 54, 55, 56, 57, 58, 59, 60, 61, 62, 63, 64, 65, 66, 67, 68, 69, 70, 71, 72, 73, 74, 75, 76, 77, 78, 79, 80, 81, 82, 83, 84] (rpl0_can st).tm 85)) (rpl0_can st).tm[0]? (rpl0_can st).tm[1]? (rpl0_can st).tm[2]? (rpl0_can st).tm[6]? (rpl0_can st).tm[7]? (rpl0_can st).tm[13]? (rpl0_can st).tm[14]? (rpl0_can st).tm[15]? (rpl0_can st).own
set_option maxRecDepth 100000 in
set_option maxHeartbeats 4000000 in
theorem rpl0_rd_ok {b : Bool} {tm : List AV} {own : Own} {u : rpl0_U} {v : rpl0_V} (hj : b = true → juAll [3, 4, 5, 8, 9, 10, 11, 12, 16, 17, 18, 19, 20, 21, 22, 23, 24, 25, 26, 27, 28, 29, 30, 31, 32, 33, 34, 35, 36, 37, 38, 39, 40, 41, 42, 43, 44, 45, 46, 47, 48, 49, 50, 51, 52, 53, 54, 55, 56, 57, 58, 59, 60, 61, 62, 63, 64, 65, 66, 67, 68, 69, 70, 71, 72, 73, 74, 75, 76, 77, 78, 79, 80, 81, 82, 83, 84] tm 85 = true) (h : rpl0_rd b tm[0]? tm[1]? tm[2]? tm[6]? tm[7]? tm[13]? tm[14]? tm[15]? own = some (u, v)) : b = true ∧ tm = (rpl0_St u v).tm ∧ own = (rpl0_St u v).own := by
  unfold rpl0_rd at h
  obtain ⟨rfl, h0⟩ := zrT_some h
  obtain ⟨za1, e0, h1⟩ := zrO_some h0
  obtain ⟨zc2, rfl, h2⟩ := zrA1_some h1
  obtain ⟨q0, rfl, h3⟩ := zrD_some h2
  obtain ⟨za3, e1, h4⟩ := zrO_some h3
  obtain ⟨zc4, rfl, h5⟩ := zrA1_some h4
  obtain ⟨q1, rfl, h6⟩ := zrD_some h5
  obtain ⟨za5, e2, h7⟩ := zrO_some h6
  obtain ⟨zc6, rfl, h8⟩ := zrA1_some h7
  obtain ⟨q2, rfl, h9⟩ := zrI_some h8
  obtain ⟨za7, e6, h10⟩ := zrO_some h9
  obtain ⟨zc8, rfl, h11⟩ := zrA1_some h10
  obtain ⟨rfl, h12⟩ := zrNil_some h11
  obtain ⟨za9, e7, h13⟩ := zrO_some h12
  obtain ⟨zc10, rfl, h14⟩ := zrA1_some h13
  obtain ⟨q3, rfl, h15⟩ := zrI_some h14
  obtain ⟨za11, e13, h16⟩ := zrO_some h15
  obtain ⟨zc12, rfl, h17⟩ := zrA1_some h16
  obtain ⟨q4, rfl, h18⟩ := zrD_some h17
  obtain ⟨za13, e14, h19⟩ := zrO_some h18
  obtain ⟨zc14, rfl, h20⟩ := zrA1_some h19
  obtain ⟨q5, rfl, h21⟩ := zrI_some h20
  obtain ⟨za15, e15, h22⟩ := zrO_some h21
  obtain ⟨zc16, rfl, h23⟩ := zrA1_some h22
  obtain ⟨q6, rfl, h24⟩ := zrI_some h23
  obtain ⟨rfl, h25⟩ := zrN_some h24
  have h := Option.some.inj h25
  have hu := congrArg Prod.fst h
  have hv := congrArg Prod.snd h
  dsimp only at hu hv
  subst hu
  subst hv
  exact ⟨rfl, (tm_fill (hj rfl) (Lv := [(0, .one (.d false false (.prod (.prod (.int .i64) (.prod (.int .i64) (.prod (.int .i64) (.int .i64)))) (.prod (.int .i64) (.prod (.int .i64) (.prod (.int .i64) (.int .i64))))) q0)), (1, .one (.d false false (.int .i64) q1)), (2, .one (.v false (.int .i64 q2))), (6, .one (.v false (Value.slice none (0 : Nat) (0 : Nat)))), (7, .one (.v false (.int .i64 q3))), (13, .one (.d false false (.prod (.prod (.int .i64) (.prod (.int .i64) (.prod (.int .i64) (.int .i64)))) (.prod (.int .i64) (.prod (.int .i64) (.prod (.int .i64) (.int .i64))))) q4)), (14, .one (.v false (.int .i64 q5))), (15, .one (.v false (.int .i64 q6)))]) (by kernel_rfl) ⟨e0, e1, e2, e6, e7, e13, e14, e15, trivial⟩).trans (by kernel_rfl), rfl⟩
theorem rpl0_read_ok (st : Stt) (u : rpl0_U) (v : rpl0_V) (h : rpl0_read st = some (u, v)) : rpl0_cok st = true ∧ staysA [] [] st.own = true ∧ rpl0_can st = rpl0_St u v := by
  obtain ⟨h1, h2, h3⟩ := rpl0_rd_ok (fun hb => by rw [Bool.and_eq_true, Bool.and_eq_true] at hb; exact hb.2.2) h
  rw [Bool.and_eq_true, Bool.and_eq_true] at h1
  refine ⟨h1.1, h1.2.1, ?_⟩
  have e : rpl0_can st = ⟨(rpl0_can st).tm, (rpl0_can st).own, 1005⟩ := by kernel_rfl
  rw [e, h2, h3]
  rfl
noncomputable def rpl0_cond (u : rpl0_U) (v : rpl0_V) : Bool := runC (rpl0_step u) v
noncomputable def rpl0_g (u : rpl0_U) (v : rpl0_V) : Nat × rpl0_V := runG (rpl0_step u) v
theorem rpl0_hg : ∀ (u : rpl0_U) (v : rpl0_V), rpl0_cond u v = true → loopN (rpl0_step u) ((fun u v => runF (rpl0_step u) v) u v) v = some (rpl0_g u v) := by
  exact fun u v h => run_hg h
noncomputable def rpl0_m (st : Stt) : Option (Tr (Ex × Stt)) := sumM rpl0_read rpl0_cond rpl0_St rpl0_g [(0, .ret), (1, .exit 0)] st
noncomputable def abR_L64 : FuncId → Loops := addL 19 [0, 1, 0, 1] rpl0_m abR_L63
set_option maxRecDepth 100000 in
set_option maxHeartbeats 4000000 in
theorem abR_L64_ok : LoopsOK Try.prog abR_L64 :=
  loop_sumF (body := (bodyOf Try.prog 19)) (c := (loopOf (bodyOf Try.prog 19) [1, 0, 1, 0])) (kinds := [.ret, .exit 0]) (allow := [(0, .ret), (1, .exit 0)]) (St := rpl0_St) (step := rpl0_step) (W := [3, 4, 5, 8, 9, 10, 11, 12, 16, 17, 18, 19, 20, 21, 22, 23, 24, 25, 26, 27, 28, 29, 30, 31, 32, 33, 34, 35, 36, 37, 38, 39, 40, 41, 42, 43, 44, 45, 46, 47, 48, 49, 50, 51, 52, 53, 54, 55, 56, 57, 58, 59, 60, 61, 62, 63, 64, 65, 66, 67, 68, 69, 70, 71, 72, 73, 74, 75, 76, 77, 78, 79, 80, 81, 82, 83, 84]) (As := []) (ks := []) (dd := []) (nx := 1005) (n := 100000) (g := rpl0_g) (cond := rpl0_cond) (fuel := (fun u v => runF (rpl0_step u) v)) (read := rpl0_read) (by kernel_rfl) (abR_S62_ok) (abR_L63_ok) 7 ⟨Try.f19, by kernel_rfl, by kernel_rfl⟩ (by kernel_rfl) (by kernel_rfl) (by kernel_rfl) rpl0_step_eq rpl0_hg rpl0_read_ok
abbrev rpl1_U : Type := Int × (Ty.list (.int .i64)).den × Int
abbrev rpl1_V : Type := Int × (Ty.list (.prod (.prod (.int .i64) (.prod (.int .i64) (.prod (.int .i64) (.int .i64)))) (.prod (.int .i64) (.prod (.int .i64) (.prod (.int .i64) (.int .i64)))))).den
noncomputable def rpl1_St (u : rpl1_U) (v : rpl1_V) : Stt := ⟨[.one .junk, .one .junk, .one .junk, .one .junk, .one .junk, .one .junk, .one (.v false (Value.slice none (0 : Nat) (0 : Nat))), .one (.v false (.int .i64 u.1)), .one .junk, .one .junk, .one (.d false false (.int .i64) u.2.1), .one (.s false 1043 0 (none)), .one .junk, .one .junk, .one .junk, .one .junk, .one .junk, .one .junk, .one .junk, .one .junk, .one .junk, .one .junk, .one .junk, .one .junk, .one .junk, .one .junk, .one .junk, .one .junk, .one .junk, .one .junk, .one .junk, .one .junk, .one .junk, .one .junk, .one .junk, .one .junk, .one .junk, .one .junk, .one .junk, .one .junk, .one .junk, .one .junk, .one .junk, .one .junk, .one .junk, .one .junk, .one .junk, .one .junk, .one .junk, .one .junk, .one .junk, .one .junk, .one .junk, .one .junk, .one .junk, .one .junk, .one .junk, .one .junk, .one .junk, .one .junk, .one .junk, .one .junk, .one (.v false (.int .i64 u.2.2)), .one (.v false (.int .i64 v.1)), .one .junk, .one .junk, .one .junk, .one .junk, .one .junk, .one .junk, .one .junk, .one .junk, .one .junk, .one .junk, .one .junk, .one .junk, .one .junk, .one .junk, .one .junk, .one .junk, .one .junk, .one .junk, .one .junk, .one .junk, .one .junk], [(1043, .row true false false 35 (.prod (.prod (.int .i64) (.prod (.int .i64) (.prod (.int .i64) (.int .i64)))) (.prod (.int .i64) (.prod (.int .i64) (.prod (.int .i64) (.int .i64))))) v.2), (1041, .dead)], 2048⟩
noncomputable def rpl1_step (u : rpl1_U) (v : rpl1_V) : Tr (rpl1_V ⊕ (Nat × rpl1_V)) :=
  match u, v with
  | (_, q1, q2), (q3, q4) => .br (decide (q3 < q2)) (.br (decide ((0 : Int) ≤ q3) && decide (q3 < (↑(List.length q1) : Int))) (.br (decide ((0 : Int) ≤ q3) && decide (q3 < (↑(List.length q4) : Int))) (.br (decide (Int.toNat q3 < List.length q4)) (.br (decide ((0 : Int) ≤ IntKind.wrap IntKind.i64 (q3 + (1 : Int))) && decide (IntKind.wrap IntKind.i64 (q3 + (1 : Int)) < (↑(List.length q1) : Int))) (.br (decide ((0 : Int) ≤ q3) && decide (q3 < (↑(List.length (List.set q4 (Int.toNat q3) ((Prod.fst (Prod.fst (el_iiiiiiii q4 q3)), Prod.fst (Prod.snd (Prod.fst (el_iiiiiiii q4 q3))), Prod.fst (Prod.snd (Prod.snd (Prod.fst (el_iiiiiiii q4 q3)))), Prod.snd (Prod.snd (Prod.snd (Prod.fst (el_iiiiiiii q4 q3))))), Prod.fst (Prod.snd (el_iiiiiiii q4 q3)), el_i q1 q3, Prod.fst (Prod.snd (Prod.snd (Prod.snd (el_iiiiiiii q4 q3)))), Prod.snd (Prod.snd (Prod.snd (Prod.snd (el_iiiiiiii q4 q3))))))) : Int))) (.br (decide (Int.toNat q3 < List.length (List.set q4 (Int.toNat q3) ((Prod.fst (Prod.fst (el_iiiiiiii q4 q3)), Prod.fst (Prod.snd (Prod.fst (el_iiiiiiii q4 q3))), Prod.fst (Prod.snd (Prod.snd (Prod.fst (el_iiiiiiii q4 q3)))), Prod.snd (Prod.snd (Prod.snd (Prod.fst (el_iiiiiiii q4 q3))))), Prod.fst (Prod.snd (el_iiiiiiii q4 q3)), el_i q1 q3, Prod.fst (Prod.snd (Prod.snd (Prod.snd (el_iiiiiiii q4 q3)))), Prod.snd (Prod.snd (Prod.snd (Prod.snd (el_iiiiiiii q4 q3)))))))) (.ret (.inl (IntKind.wrap IntKind.i64 (q3 + (1 : Int)), List.set (List.set q4 (Int.toNat q3) ((Prod.fst (Prod.fst (el_iiiiiiii q4 q3)), Prod.fst (Prod.snd (Prod.fst (el_iiiiiiii q4 q3))), Prod.fst (Prod.snd (Prod.snd (Prod.fst (el_iiiiiiii q4 q3)))), Prod.snd (Prod.snd (Prod.snd (Prod.fst (el_iiiiiiii q4 q3))))), Prod.fst (Prod.snd (el_iiiiiiii q4 q3)), el_i q1 q3, Prod.fst (Prod.snd (Prod.snd (Prod.snd (el_iiiiiiii q4 q3)))), Prod.snd (Prod.snd (Prod.snd (Prod.snd (el_iiiiiiii q4 q3)))))) (Int.toNat q3) ((Prod.fst (Prod.fst (el_iiiiiiii (List.set q4 (Int.toNat q3) ((Prod.fst (Prod.fst (el_iiiiiiii q4 q3)), Prod.fst (Prod.snd (Prod.fst (el_iiiiiiii q4 q3))), Prod.fst (Prod.snd (Prod.snd (Prod.fst (el_iiiiiiii q4 q3)))), Prod.snd (Prod.snd (Prod.snd (Prod.fst (el_iiiiiiii q4 q3))))), Prod.fst (Prod.snd (el_iiiiiiii q4 q3)), el_i q1 q3, Prod.fst (Prod.snd (Prod.snd (Prod.snd (el_iiiiiiii q4 q3)))), Prod.snd (Prod.snd (Prod.snd (Prod.snd (el_iiiiiiii q4 q3)))))) q3)), Prod.fst (Prod.snd (Prod.fst (el_iiiiiiii (List.set q4 (Int.toNat q3) ((Prod.fst (Prod.fst (el_iiiiiiii q4 q3)), Prod.fst (Prod.snd (Prod.fst (el_iiiiiiii q4 q3))), Prod.fst (Prod.snd (Prod.snd (Prod.fst (el_iiiiiiii q4 q3)))), Prod.snd (Prod.snd (Prod.snd (Prod.fst (el_iiiiiiii q4 q3))))), Prod.fst (Prod.snd (el_iiiiiiii q4 q3)), el_i q1 q3, Prod.fst (Prod.snd (Prod.snd (Prod.snd (el_iiiiiiii q4 q3)))), Prod.snd (Prod.snd (Prod.snd (Prod.snd (el_iiiiiiii q4 q3)))))) q3))), Prod.fst (Prod.snd (Prod.snd (Prod.fst (el_iiiiiiii (List.set q4 (Int.toNat q3) ((Prod.fst (Prod.fst (el_iiiiiiii q4 q3)), Prod.fst (Prod.snd (Prod.fst (el_iiiiiiii q4 q3))), Prod.fst (Prod.snd (Prod.snd (Prod.fst (el_iiiiiiii q4 q3)))), Prod.snd (Prod.snd (Prod.snd (Prod.fst (el_iiiiiiii q4 q3))))), Prod.fst (Prod.snd (el_iiiiiiii q4 q3)), el_i q1 q3, Prod.fst (Prod.snd (Prod.snd (Prod.snd (el_iiiiiiii q4 q3)))), Prod.snd (Prod.snd (Prod.snd (Prod.snd (el_iiiiiiii q4 q3)))))) q3)))), Prod.snd (Prod.snd (Prod.snd (Prod.fst (el_iiiiiiii (List.set q4 (Int.toNat q3) ((Prod.fst (Prod.fst (el_iiiiiiii q4 q3)), Prod.fst (Prod.snd (Prod.fst (el_iiiiiiii q4 q3))), Prod.fst (Prod.snd (Prod.snd (Prod.fst (el_iiiiiiii q4 q3)))), Prod.snd (Prod.snd (Prod.snd (Prod.fst (el_iiiiiiii q4 q3))))), Prod.fst (Prod.snd (el_iiiiiiii q4 q3)), el_i q1 q3, Prod.fst (Prod.snd (Prod.snd (Prod.snd (el_iiiiiiii q4 q3)))), Prod.snd (Prod.snd (Prod.snd (Prod.snd (el_iiiiiiii q4 q3)))))) q3))))), Prod.fst (Prod.snd (el_iiiiiiii (List.set q4 (Int.toNat q3) ((Prod.fst (Prod.fst (el_iiiiiiii q4 q3)), Prod.fst (Prod.snd (Prod.fst (el_iiiiiiii q4 q3))), Prod.fst (Prod.snd (Prod.snd (Prod.fst (el_iiiiiiii q4 q3)))), Prod.snd (Prod.snd (Prod.snd (Prod.fst (el_iiiiiiii q4 q3))))), Prod.fst (Prod.snd (el_iiiiiiii q4 q3)), el_i q1 q3, Prod.fst (Prod.snd (Prod.snd (Prod.snd (el_iiiiiiii q4 q3)))), Prod.snd (Prod.snd (Prod.snd (Prod.snd (el_iiiiiiii q4 q3)))))) q3)), Prod.fst (Prod.snd (Prod.snd (el_iiiiiiii (List.set q4 (Int.toNat q3) ((Prod.fst (Prod.fst (el_iiiiiiii q4 q3)), Prod.fst (Prod.snd (Prod.fst (el_iiiiiiii q4 q3))), Prod.fst (Prod.snd (Prod.snd (Prod.fst (el_iiiiiiii q4 q3)))), Prod.snd (Prod.snd (Prod.snd (Prod.fst (el_iiiiiiii q4 q3))))), Prod.fst (Prod.snd (el_iiiiiiii q4 q3)), el_i q1 q3, Prod.fst (Prod.snd (Prod.snd (Prod.snd (el_iiiiiiii q4 q3)))), Prod.snd (Prod.snd (Prod.snd (Prod.snd (el_iiiiiiii q4 q3)))))) q3))), Prod.fst (Prod.snd (Prod.snd (Prod.snd (el_iiiiiiii (List.set q4 (Int.toNat q3) ((Prod.fst (Prod.fst (el_iiiiiiii q4 q3)), Prod.fst (Prod.snd (Prod.fst (el_iiiiiiii q4 q3))), Prod.fst (Prod.snd (Prod.snd (Prod.fst (el_iiiiiiii q4 q3)))), Prod.snd (Prod.snd (Prod.snd (Prod.fst (el_iiiiiiii q4 q3))))), Prod.fst (Prod.snd (el_iiiiiiii q4 q3)), el_i q1 q3, Prod.fst (Prod.snd (Prod.snd (Prod.snd (el_iiiiiiii q4 q3)))), Prod.snd (Prod.snd (Prod.snd (Prod.snd (el_iiiiiiii q4 q3)))))) q3)))), el_i q1 (IntKind.wrap IntKind.i64 (q3 + (1 : Int))))))) (.bad 19)) (.bad 31)) (.bad 29)) (.bad 19)) (.bad 31)) (.bad 29)) (.ret (.inr (0, (q3, q4))))
set_option maxRecDepth 100000 in
set_option maxHeartbeats 4000000 in
theorem rpl1_step_eq : ∀ (u : rpl1_U) (v : rpl1_V), (evalC Try.prog (evalB Try.prog abR_S62 (opens []) abR_L64 7).1 (evalB Try.prog abR_S62 (opens []) abR_L64 7).2 (opens []) (abR_L64 19) 100000 (0 :: [0, 1, 0, 1, 1, 1, 1, 1, 1, 1]) (loopOf (bodyOf Try.prog 19) [1, 1, 1, 1, 1, 1, 1, 0, 1, 0]) (rpl1_St u v) []).bind (finF [0, 1, 2, 3, 4, 5, 8, 9, 12, 13, 14, 15, 16, 17, 18, 19, 20, 21, 22, 23, 24, 25, 26, 27, 28, 29, 30, 31, 32, 33, 34, 35, 36, 37, 38, 39, 40, 41, 42, 43, 44, 45, 46, 47, 48, 49, 50, 51, 52, 53, 54, 55, 56, 57, 58, 59, 60, 61, 64, 65, 66, 67, 68, 69, 70, 71, 72, 73, 74, 75, 76, 77, 78, 79, 80, 81, 82, 83, 84] [] [1043, 1041] [1041] 2048) = (rpl1_step u v).bind (outA (rpl1_St u) [.exit 2]) := by
  rintro ⟨q0, q1, q2⟩ ⟨q3, q4⟩
  kernel_rfl
noncomputable def rpl1_rd (b : Bool) (o6 : Option AV) (o7 : Option AV) (o10 : Option AV) (o11 : Option AV) (o62 : Option AV) (o63 : Option AV) (own : Own) : Option (rpl1_U × rpl1_V) := zrT b <| zrO o6 fun za1 => zrA1 za1 fun zc2 => zrNil zc2 <| zrO o7 fun za3 => zrA1 za3 fun zc4 => zrI .i64 zc4 fun q0 => zrO o10 fun za5 => zrA1 za5 fun zc6 => zrD (.int .i64) zc6 fun q1 => zrO o11 fun za7 => zrA1 za7 fun zc8 => zrSl 1043 0 (none) zc8 <| zrO o62 fun za9 => zrA1 za9 fun zc10 => zrI .i64 zc10 fun q2 => zrO o63 fun za11 => zrA1 za11 fun zc12 => zrI .i64 zc12 fun q3 => zrL own fun zq13 zw14 => zrKey 1043 zq13 fun zk15 => zrR true 35 (.prod (.prod (.int .i64) (.prod (.int .i64) (.prod (.int .i64) (.int .i64)))) (.prod (.int .i64) (.prod (.int .i64) (.prod (.int .i64) (.int .i64))))) zk15 fun q4 => zrL zw14 fun zq16 zw17 => zrKey 1041 zq16 fun zk18 => zrX zk18 <| zrN zw17 <| some ((q0, q1, q2), (q3, q4))
noncomputable def rpl1_can (st : Stt) : Stt := canA [0, 1, 2, 3, 4, 5, 8, 9, 12, 13, 14, 15, 16, 17, 18, 19, 20, 21, 22, 23, 24, 25, 26, 27, 28, 29, 30, 31, 32, 33, 34, 35, 36, 37, 38, 39, 40, 41, 42, 43, 44, 45, 46, 47, 48, 49, 50, 51, 52, 53, 54, 55, 56, 57, 58, 59, 60, 61, 64, 65, 66, 67, 68, 69, 70, 71, 72, 73, 74, 75, 76, 77, 78, 79, 80, 81, 82, 83, 84] [] [1043, 1041] [1041] 2048 st
noncomputable def rpl1_cok (st : Stt) : Bool := canAok [0, 1, 2, 3, 4, 5, 8, 9, 12, 13, 14, 15, 16, 17, 18, 19, 20, 21, 22, 23, 24, 25, 26, 27, 28, 29, 30, 31, 32, 33, 34, 35, 36, 37, 38, 39, 40, 41, 42, 43, 44, 45, 46, 47, 48, 49, 50, 51, 52, 53, 54, 55, 56, 57, 58, 59, 60, 61, 64, 65, 66, 67, 68, 69, 70, 71, 72, 73, 74, 75, 76, 77, 78, 79, 80, 81, 82, 83, 84] [] [1043, 1041] [1041] 2048 st
noncomputable def rpl1_read (st : Stt) : Option (rpl1_U × rpl1_V) := rpl1_rd (rpl1_cok st && (staysA [] [1043, 1041] st.own && juAll [0, 1, 2, 3, 4, 5, 8, 9, 12, 13, 14, 15, 16, 17, 18, 19, 20, 21, 22, 23, 24, 25, 26, 27, 28, 29, 30, 31, 32, 33, 34, 35, 36, 37, 38, 39, 40, 41, 42, 43, 44, 45, 46, 47, 48, 49, 50, 51, 52, 53, 54, 55, 56, 57, 58, 59, 60, 61, 64, 65, 66, 67, 68, 69, 70, 71, 72, 73, 74, 75, 76, 77, 78, 79, 80, 81, 82, 83, 84] (rpl1_can st).tm 85)) (rpl1_can st).tm[6]? (rpl1_can st).tm[7]? (rpl1_can st).tm[10]? (rpl1_can st).tm[11]? (rpl1_can st).tm[62]? (rpl1_can st).tm[63]? (rpl1_can st).own
set_option maxRecDepth 100000 in
set_option maxHeartbeats 4000000 in
theorem rpl1_rd_ok {b : Bool} {tm : List AV} {own : Own} {u : rpl1_U} {v : rpl1_V} (hj : b = true → juAll [0, 1, 2, 3, 4, 5, 8, 9, 12, 13, 14, 15, 16, 17, 18, 19, 20, 21, 22, 23, 24, 25, 26, 27, 28, 29, 30, 31, 32, 33, 34, 35, 36, 37, 38, 39, 40, 41, 42, 43, 44, 45, 46, 47, 48, 49, 50, 51, 52, 53, 54, 55, 56, 57, 58, 59, 60, 61, 64, 65, 66, 67, 68, 69, 70, 71, 72, 73, 74, 75, 76, 77, 78, 79, 80, 81, 82, 83, 84] tm 85 = true) (h : rpl1_rd b tm[6]? tm[7]? tm[10]? tm[11]? tm[62]? tm[63]? own = some (u, v)) : b = true ∧ tm = (rpl1_St u v).tm ∧ own = (rpl1_St u v).own := by
  unfold rpl1_rd at h
  obtain ⟨rfl, h0⟩ := zrT_some h
  obtain ⟨za1, e6, h1⟩ := zrO_some h0
  obtain ⟨zc2, rfl, h2⟩ := zrA1_some h1
  obtain ⟨rfl, h3⟩ := zrNil_some h2
  obtain ⟨za3, e7, h4⟩ := zrO_some h3
  obtain ⟨zc4, rfl, h5⟩ := zrA1_some h4
  obtain ⟨q0, rfl, h6⟩ := zrI_some h5
  obtain ⟨za5, e10, h7⟩ := zrO_some h6
  obtain ⟨zc6, rfl, h8⟩ := zrA1_some h7
  obtain ⟨q1, rfl, h9⟩ := zrD_some h8
  obtain ⟨za7, e11, h10⟩ := zrO_some h9
  obtain ⟨zc8, rfl, h11⟩ := zrA1_some h10
  obtain ⟨rfl, h12⟩ := zrSl_some h11
  obtain ⟨za9, e62, h13⟩ := zrO_some h12
  obtain ⟨zc10, rfl, h14⟩ := zrA1_some h13
  obtain ⟨q2, rfl, h15⟩ := zrI_some h14
  obtain ⟨za11, e63, h16⟩ := zrO_some h15
  obtain ⟨zc12, rfl, h17⟩ := zrA1_some h16
  obtain ⟨q3, rfl, h18⟩ := zrI_some h17
  obtain ⟨zq13, zw14, rfl, h19⟩ := zrL_some h18
  obtain ⟨zk15, rfl, h20⟩ := zrKey_some h19
  obtain ⟨q4, rfl, h21⟩ := zrR_some h20
  obtain ⟨zq16, zw17, rfl, h22⟩ := zrL_some h21
  obtain ⟨zk18, rfl, h23⟩ := zrKey_some h22
  obtain ⟨rfl, h24⟩ := zrX_some h23
  obtain ⟨rfl, h25⟩ := zrN_some h24
  have h := Option.some.inj h25
  have hu := congrArg Prod.fst h
  have hv := congrArg Prod.snd h
  dsimp only at hu hv
  subst hu
  subst hv
  exact ⟨rfl, (tm_fill (hj rfl) (Lv := [(6, .one (.v false (Value.slice none (0 : Nat) (0 : Nat)))), (7, .one (.v false (.int .i64 q0))), (10, .one (.d false false (.int .i64) q1)), (11, .one (.s false 1043 0 (none))), (62, .one (.v false (.int .i64 q2))), (63, .one (.v false (.int .i64 q3)))]) (by kernel_rfl) ⟨e6, e7, e10, e11, e62, e63, trivial⟩).trans (by kernel_rfl), rfl⟩
theorem rpl1_read_ok (st : Stt) (u : rpl1_U) (v : rpl1_V) (h : rpl1_read st = some (u, v)) : rpl1_cok st = true ∧ staysA [] [1043, 1041] st.own = true ∧ rpl1_can st = rpl1_St u v := by
  obtain ⟨h1, h2, h3⟩ := rpl1_rd_ok (fun hb => by rw [Bool.and_eq_true, Bool.and_eq_true] at hb; exact hb.2.2) h
  rw [Bool.and_eq_true, Bool.and_eq_true] at h1
  refine ⟨h1.1, h1.2.1, ?_⟩
  have e : rpl1_can st = ⟨(rpl1_can st).tm, (rpl1_can st).own, 2048⟩ := by kernel_rfl
  rw [e, h2, h3]
  rfl
noncomputable def rpl1_cond (u : rpl1_U) (v : rpl1_V) : Bool := runC (rpl1_step u) v
noncomputable def rpl1_g (u : rpl1_U) (v : rpl1_V) : Nat × rpl1_V := runG (rpl1_step u) v
theorem rpl1_hg : ∀ (u : rpl1_U) (v : rpl1_V), rpl1_cond u v = true → loopN (rpl1_step u) ((fun u v => runF (rpl1_step u) v) u v) v = some (rpl1_g u v) := by
  exact fun u v h => run_hg h
noncomputable def rpl1_m (st : Stt) : Option (Tr (Ex × Stt)) := sumM rpl1_read rpl1_cond rpl1_St rpl1_g [(0, .exit 2)] st
noncomputable def abR_L65 : FuncId → Loops := addL 19 [0, 1, 0, 1, 1, 1, 1, 1, 1, 1] rpl1_m abR_L64
set_option maxRecDepth 100000 in
set_option maxHeartbeats 4000000 in
theorem abR_L65_ok : LoopsOK Try.prog abR_L65 :=
  loop_sumF (body := (bodyOf Try.prog 19)) (c := (loopOf (bodyOf Try.prog 19) [1, 1, 1, 1, 1, 1, 1, 0, 1, 0])) (kinds := [.exit 2]) (allow := [(0, .exit 2)]) (St := rpl1_St) (step := rpl1_step) (W := [0, 1, 2, 3, 4, 5, 8, 9, 12, 13, 14, 15, 16, 17, 18, 19, 20, 21, 22, 23, 24, 25, 26, 27, 28, 29, 30, 31, 32, 33, 34, 35, 36, 37, 38, 39, 40, 41, 42, 43, 44, 45, 46, 47, 48, 49, 50, 51, 52, 53, 54, 55, 56, 57, 58, 59, 60, 61, 64, 65, 66, 67, 68, 69, 70, 71, 72, 73, 74, 75, 76, 77, 78, 79, 80, 81, 82, 83, 84]) (As := []) (ks := [1043, 1041]) (dd := [1041]) (nx := 2048) (n := 100000) (g := rpl1_g) (cond := rpl1_cond) (fuel := (fun u v => runF (rpl1_step u) v)) (read := rpl1_read) (by kernel_rfl) (abR_S62_ok) (abR_L64_ok) 7 ⟨Try.f19, by kernel_rfl, by kernel_rfl⟩ (by kernel_rfl) (by kernel_rfl) (by kernel_rfl) rpl1_step_eq rpl1_hg rpl1_read_ok
end Go.Proofs.Ytaidlflnkdamkaa
