/-
  Regions: the program's operations.
-/
import Derived.Test.YtacgchandefjgaaProg
import Derived.Test.YtacgchandefjgaaFvX
import Derived.Test.YtacgchandefjgaaFvZ
import Derived.Test.YtacgchandefjgaaAut
import Derived.Test.YtacgchandefjgaaRd
import Derived.Test.YtacgchandefjgaaPl
import Derived.Test.YtacgchandefjgaaScn
import Derived.Test.YtacgchandefjgaaMor
import Derived.Test.YtacgchandefjgaaRgB
import Derived.Test.YtacgchandefjgaaRgC
namespace Go.Proofs.Ytacgchandefjgaa
open Go
set_option maxRecDepth 100000 in
theorem lowc_tree (A : (Ty.list (.prod (.int .i64) (.list (.prod (.int .i64) (.int .i64))))).den) (B : (Ty.list (.prod (.int .i64) (.list (.prod (.int .i64) (.int .i64))))).den) : evalF Try.prog rgC_S57 (opens []) rgC_L56 9 110 [.ag [.d false false (.prod (.int .i64) (.list (.prod (.int .i64) (.int .i64)))) A], .ag [.d false false (.prod (.int .i64) (.list (.prod (.int .i64) (.int .i64)))) B]] = .br ((bif (↑(List.length A) : Int) == (0 : Int) then (decide ((0 : Int) ≤ (0 : Int)) && decide ((0 : Int) < (↑(List.length B) : Int))) else (bif (↑(List.length B) : Int) == (0 : Int) then (decide ((0 : Int) ≤ (0 : Int)) && decide ((0 : Int) < (↑(List.length A) : Int))) else ((decide ((0 : Int) ≤ (0 : Int)) && decide ((0 : Int) < (↑(List.length A) : Int))) && (decide ((0 : Int) ≤ (0 : Int)) && decide ((0 : Int) < (↑(List.length B) : Int))))))) (.ret (.one (.v false (.int .i64 (bif (↑(List.length A) : Int) == (0 : Int) then Prod.fst (el_ilii B (0 : Int)) else bif (↑(List.length B) : Int) == (0 : Int) then Prod.fst (el_ilii A (0 : Int)) else if Prod.fst (el_ilii B (0 : Int)) < Prod.fst (el_ilii A (0 : Int)) then Prod.fst (el_ilii B (0 : Int)) else Prod.fst (el_ilii A (0 : Int))))))) (.bad 116) := by kernel_rfl
theorem lowc_val (A : (Ty.list (.prod (.int .i64) (.list (.prod (.int .i64) (.int .i64))))).den) (B : (Ty.list (.prod (.int .i64) (.list (.prod (.int .i64) (.int .i64))))).den) (hc : (decide (0 < A.length) || decide (0 < B.length)) = true) : (.br ((bif (↑(List.length A) : Int) == (0 : Int) then (decide ((0 : Int) ≤ (0 : Int)) && decide ((0 : Int) < (↑(List.length B) : Int))) else (bif (↑(List.length B) : Int) == (0 : Int) then (decide ((0 : Int) ≤ (0 : Int)) && decide ((0 : Int) < (↑(List.length A) : Int))) else ((decide ((0 : Int) ≤ (0 : Int)) && decide ((0 : Int) < (↑(List.length A) : Int))) && (decide ((0 : Int) ≤ (0 : Int)) && decide ((0 : Int) < (↑(List.length B) : Int))))))) (.ret (.one (.v false (.int .i64 (bif (↑(List.length A) : Int) == (0 : Int) then Prod.fst (el_ilii B (0 : Int)) else bif (↑(List.length B) : Int) == (0 : Int) then Prod.fst (el_ilii A (0 : Int)) else if Prod.fst (el_ilii B (0 : Int)) < Prod.fst (el_ilii A (0 : Int)) then Prod.fst (el_ilii B (0 : Int)) else Prod.fst (el_ilii A (0 : Int))))))) (.bad 116) : Tr AV).val = some (.one (.v false (.int .i64 (lowG A B)))) := by
  obtain ⟨K, rfl⟩ : ∃ K : Rg, K = A := ⟨A, rfl⟩
  obtain ⟨M, rfl⟩ : ∃ K : Rg, K = B := ⟨B, rfl⟩
  have hc : (decide (0 < K.length) || decide (0 < M.length)) = true := hc
  have c3 : decide ((0 : Int) ≤ (0 : Int)) = true := rfl
  show cond _ _ _ = _
  cases K with
  | nil =>
    cases M with
    | nil => simp at hc
    | cons b M =>
      have c1 : decide ((0 : Int) < ((List.length (b :: M) : Nat) : Int)) = true := decide_eq_true (by rw [List.length_cons]; omega)
      have b1 : (((List.length ([] : Rg) : Nat) : Int) == (0 : Int)) = true := rfl
      have e : el_ilii (b :: M) (0 : Int) = b := el_g (R := b :: M) (i := 0) (by simp)
      simp only [b1, c1, c3, e, Bool.and_self, cond_true, cond_false, Tr.val]
      rfl
  | cons a K =>
    have ca : decide ((0 : Int) < ((List.length (a :: K) : Nat) : Int)) = true := decide_eq_true (by rw [List.length_cons]; omega)
    have b1 : (((List.length (a :: K) : Nat) : Int) == (0 : Int)) = false := by rw [beq_eq_false_iff_ne, List.length_cons]; omega
    have ea : el_ilii (a :: K) (0 : Int) = a := el_g (R := a :: K) (i := 0) (by simp)
    cases M with
    | nil =>
      have b2 : (((List.length ([] : Rg) : Nat) : Int) == (0 : Int)) = true := rfl
      simp only [b1, b2, ca, c3, ea, Bool.and_self, cond_true, cond_false, Tr.val]
      rfl
    | cons b M =>
      have cb : decide ((0 : Int) < ((List.length (b :: M) : Nat) : Int)) = true := decide_eq_true (by rw [List.length_cons]; omega)
      have b2 : (((List.length (b :: M) : Nat) : Int) == (0 : Int)) = false := by rw [beq_eq_false_iff_ne, List.length_cons]; omega
      have eb : el_ilii (b :: M) (0 : Int) = b := el_g (R := b :: M) (i := 0) (by simp)
      simp only [b1, b2, ca, cb, c3, ea, eb, ite_min, Bool.and_self, cond_true, cond_false, Tr.val]
      rfl
noncomputable def lowc_g : List AV → Option (Tr AV)
  | [.ag [.d _ _ (.prod (.int .i64) (.list (.prod (.int .i64) (.int .i64)))) A], .ag [.d _ _ (.prod (.int .i64) (.list (.prod (.int .i64) (.int .i64)))) B]] => some (.br (decide (0 < A.length) || decide (0 < B.length)) (.ret (.one (.v false (.int .i64 (lowG A B))))) (.bad 900))
  | _ => none
set_option maxHeartbeats 4000000 in
theorem lowc_ok : FunOK Try.prog 110 lowc_g := by
  refine fun_ok (by kernel_rfl) (rgC_S57_ok) (rgC_L56_ok) 9 (On := (opens [])) (fun args t h => ?_)
  unfold lowc_g at h
  split at h
  · rename_i _ _ A _ _ B
    simp only [Option.some.injEq] at h
    subst h
    refine ⟨[.ag [.d false false (.prod (.int .i64) (.list (.prod (.int .i64) (.int .i64)))) A], .ag [.d false false (.prod (.int .i64) (.list (.prod (.int .i64) (.int .i64)))) B]], rfl, fun fr w us h => h, fun r hr => ?_⟩
    obtain ⟨hc, hr⟩ := br_bad hr
    simp only [Tr.val, Option.some.injEq] at hr
    subst hr
    rw [lowc_tree]
    exact lowc_val A B hc
  · cases h
noncomputable def rgD_S51 : Sums := addS 110 lowc_g rgC_S57
theorem rgD_S51_ok : SumOK Try.prog rgD_S51 := addS_ok (lowc_ok) (rgC_S57_ok)
theorem cutD1 (a : Int × Rl) (K : Rg) : cutD (a :: K) (some (Operand.const (Value.int IntKind.i64 (1 : Int)))) none (1 : Int) ((List.length (a :: K) : Nat) : Int) = K := by
  simp [cutD, cut, newLo, newHi]
set_option maxRecDepth 100000 in
theorem splc_tree (A : (Ty.list (.prod (.int .i64) (.list (.prod (.int .i64) (.int .i64))))).den) (y : Int) : evalF Try.prog rgD_S51 (opens []) rgC_L56 9 111 [.one (.d false false (.prod (.int .i64) (.list (.prod (.int .i64) (.int .i64)))) A), .one (.v false (.int .i64 y))] = .br ((((bif decide ((↑(List.length A) : Int) > (0 : Int)) then (decide ((0 : Int) ≤ (0 : Int)) && decide ((0 : Int) < (↑(List.length A) : Int))) else true)) && (bif bif decide ((↑(List.length A) : Int) > (0 : Int)) then Prod.fst (el_ilii A (0 : Int)) == y else false then ((decide ((0 : Int) ≤ (1 : Int)) && decide ((1 : Int) ≤ (↑(List.length A) : Int)) && decide ((↑(List.length A) : Int) ≤ (↑(List.length A) : Int))) && (decide ((0 : Int) ≤ (0 : Int)) && decide ((0 : Int) < (↑(List.length A) : Int)))) else true))) (.ret (.tup [(false, [.d false false (.prod (.int .i64) (.int .i64)) (bif bif decide ((↑(List.length A) : Int) > (0 : Int)) then Prod.fst (el_ilii A (0 : Int)) == y else false then Prod.snd (el_ilii A (0 : Int)) else [])]), (false, [.d false false (.prod (.int .i64) (.list (.prod (.int .i64) (.int .i64)))) (bif bif decide ((↑(List.length A) : Int) > (0 : Int)) then Prod.fst (el_ilii A (0 : Int)) == y else false then cutD A (some (Operand.const (Value.int IntKind.i64 (1 : Int)))) none (1 : Int) (↑(List.length A) : Int) else A)])])) (.bad 116) := by kernel_rfl
set_option maxHeartbeats 4000000 in
theorem splc_val (A : (Ty.list (.prod (.int .i64) (.list (.prod (.int .i64) (.int .i64))))).den) (y : Int) : (.br ((((bif decide ((↑(List.length A) : Int) > (0 : Int)) then (decide ((0 : Int) ≤ (0 : Int)) && decide ((0 : Int) < (↑(List.length A) : Int))) else true)) && (bif bif decide ((↑(List.length A) : Int) > (0 : Int)) then Prod.fst (el_ilii A (0 : Int)) == y else false then ((decide ((0 : Int) ≤ (1 : Int)) && decide ((1 : Int) ≤ (↑(List.length A) : Int)) && decide ((↑(List.length A) : Int) ≤ (↑(List.length A) : Int))) && (decide ((0 : Int) ≤ (0 : Int)) && decide ((0 : Int) < (↑(List.length A) : Int)))) else true))) (.ret (.tup [(false, [.d false false (.prod (.int .i64) (.int .i64)) (bif bif decide ((↑(List.length A) : Int) > (0 : Int)) then Prod.fst (el_ilii A (0 : Int)) == y else false then Prod.snd (el_ilii A (0 : Int)) else [])]), (false, [.d false false (.prod (.int .i64) (.list (.prod (.int .i64) (.int .i64)))) (bif bif decide ((↑(List.length A) : Int) > (0 : Int)) then Prod.fst (el_ilii A (0 : Int)) == y else false then cutD A (some (Operand.const (Value.int IntKind.i64 (1 : Int)))) none (1 : Int) (↑(List.length A) : Int) else A)])])) (.bad 116) : Tr AV).val = some (.tup [(false, [.d false false (.prod (.int .i64) (.int .i64)) (spl A y).1]), (false, [.d false false (.prod (.int .i64) (.list (.prod (.int .i64) (.int .i64)))) (spl A y).2])]) := by
  obtain ⟨K, rfl⟩ : ∃ K : Rg, K = A := ⟨A, rfl⟩
  have c3 : decide ((0 : Int) ≤ (0 : Int)) = true := rfl
  have c4 : decide ((0 : Int) ≤ (1 : Int)) = true := rfl
  show cond _ _ _ = _
  cases K with
  | nil =>
    have d : decide (((List.length ([] : Rg) : Nat) : Int) > (0 : Int)) = false := rfl
    simp only [d, Bool.and_self, cond_true, cond_false, Tr.val]
    rfl
  | cons a K =>
    have d : decide (((List.length (a :: K) : Nat) : Int) > (0 : Int)) = true := decide_eq_true (by rw [List.length_cons]; omega)
    have ca : decide ((0 : Int) < ((List.length (a :: K) : Nat) : Int)) = true := d
    have c1 : decide ((1 : Int) ≤ ((List.length (a :: K) : Nat) : Int)) = true := decide_eq_true (by rw [List.length_cons]; omega)
    have c2 : decide (((List.length (a :: K) : Nat) : Int) ≤ ((List.length (a :: K) : Nat) : Int)) = true := decide_eq_true (Int.le_refl _)
    have ea : el_ilii (a :: K) (0 : Int) = a := el_g (R := a :: K) (i := 0) (by simp)
    have es : spl (a :: K) y = (bif decide (a.1 = y) then (a.2, K) else ([], a :: K)) := rfl
    have eb : (a.1 == y) = decide (a.1 = y) := by rw [Bool.eq_iff_iff]; simp
    rw [es]
    simp only [d, ca, c1, c2, c3, c4, ea, eb, cutD1, Bool.and_self, Bool.cond_self, cond_true, cond_false]
    cases decide (a.1 = y) <;> rfl
noncomputable def splc_g : List AV → Option (Tr AV)
  | [.one (.d _ _ (.prod (.int .i64) (.list (.prod (.int .i64) (.int .i64)))) A), .one (.v _ (.int .i64 y))] => some (.ret (.tup [(false, [.d false false (.prod (.int .i64) (.int .i64)) (spl A y).1]), (false, [.d false false (.prod (.int .i64) (.list (.prod (.int .i64) (.int .i64)))) (spl A y).2])]))
  | _ => none
set_option maxHeartbeats 4000000 in
theorem splc_ok : FunOK Try.prog 111 splc_g := by
  refine fun_ok (by kernel_rfl) (rgD_S51_ok) (rgC_L56_ok) 9 (On := (opens [])) (fun args t h => ?_)
  unfold splc_g at h
  split at h
  · rename_i _ _ A _ y
    simp only [Option.some.injEq] at h
    subst h
    refine ⟨[.one (.d false false (.prod (.int .i64) (.list (.prod (.int .i64) (.int .i64)))) A), .one (.v false (.int .i64 y))], rfl, fun fr w us h => h, fun r hr => ?_⟩
    simp only [Tr.val, Option.some.injEq] at hr
    subst hr
    rw [splc_tree]
    exact splc_val A y
  · cases h
noncomputable def rgD_S52 : Sums := addS 111 splc_g rgD_S51
theorem rgD_S52_ok : SumOK Try.prog rgD_S52 := addS_ok (splc_ok) (rgD_S51_ok)
abbrev cmu_U : Type := Unit
abbrev cmu_V : Type := (Ty.list (.prod (.int .i64) (.list (.prod (.int .i64) (.int .i64))))).den × (Ty.list (.prod (.int .i64) (.list (.prod (.int .i64) (.int .i64))))).den × (Ty.list (.prod (.int .i64) (.list (.prod (.int .i64) (.int .i64))))).den
noncomputable def cmu_St (u : cmu_U) (v : cmu_V) : Stt := ⟨[.one .junk, .one .junk, .one (.fn 80 []), .one (.p 0 0), .one (.p 1 0), .one .junk, .one (.p 2 0), .one (.p 3 0), .one .junk, .one .junk, .one .junk, .one .junk, .one .junk, .one .junk, .one .junk, .one .junk, .one .junk, .one .junk, .one .junk, .one .junk, .one .junk, .one .junk, .one .junk, .one .junk, .one .junk, .one .junk, .one .junk, .one .junk, .one .junk, .one .junk, .one .junk, .one .junk, .one .junk, .one .junk, .one .junk, .one .junk, .one .junk, .one .junk, .one .junk, .one .junk, .one .junk, .one .junk, .one .junk, .one .junk, .one .junk, .one .junk, .one .junk, .one .junk, .one .junk, .one .junk, .one .junk, .one .junk, .one .junk, .one .junk, .one .junk, .one .junk, .one .junk, .one .junk, .one .junk, .one .junk, .one .junk, .one .junk, .one .junk, .one .junk, .one .junk, .one .junk], [(3, .cells [.s false 980 0 (none)]), (2, .cells [.v false (Value.slice none (0 : Nat) (0 : Nat))]), (1, .cells [.d false false (.prod (.int .i64) (.list (.prod (.int .i64) (.int .i64)))) v.1]), (0, .cells [.d false false (.prod (.int .i64) (.list (.prod (.int .i64) (.int .i64)))) v.2.1]), (980, .row true false false 56 (.prod (.int .i64) (.list (.prod (.int .i64) (.int .i64)))) v.2.2)], 1012⟩
noncomputable def cmu_step (u : cmu_U) (v : cmu_V) : Tr (cmu_V ⊕ (Nat × cmu_V)) :=
  match u, v with
  | _, (q0, q1, q2) => .br (bif decide ((↑(List.length q1) : Int) > (0 : Int)) then true else decide ((↑(List.length q0) : Int) > (0 : Int))) (.br (decide ((0 : Nat) < List.length q1) || decide ((0 : Nat) < List.length q0)) (.br ((decide (List.length (Prod.fst (spl q1 (lowG q1 q0))) ≤ (10000 : Nat)) && decide (List.length (Prod.fst (spl q0 (lowG q1 q0))) ≤ (10000 : Nat)))) (.br (decide ((↑(List.length (chL (Prod.fst (spl q1 (lowG q1 q0))) (Prod.fst (spl q0 (lowG q1 q0))) (2 : Int))) : Int) > (0 : Int))) (.br (decide ((List.length q2 + (1 : Nat)) * (32 : Nat) ≤ maxNew) && decide (List.length q2 + (1 : Nat) ≤ maxLen)) (.ret (.inl (Prod.snd (spl q0 (lowG q1 q0)), Prod.snd (spl q1 (lowG q1 q0)), q2 ++ [(lowG q1 q0, chL (Prod.fst (spl q1 (lowG q1 q0))) (Prod.fst (spl q0 (lowG q1 q0))) (2 : Int))]))) (.bad 71)) (.ret (.inl (Prod.snd (spl q0 (lowG q1 q0)), Prod.snd (spl q1 (lowG q1 q0)), q2)))) (.bad 116)) (.bad 900)) (.ret (.inr (0, (q0, q1, q2))))
set_option maxRecDepth 100000 in
set_option maxHeartbeats 4000000 in
theorem cmu_step_eq : ∀ (u : cmu_U) (v : cmu_V), (evalC Try.prog (evalB Try.prog rgD_S52 (opens []) rgC_L56 7).1 (evalB Try.prog rgD_S52 (opens []) rgC_L56 7).2 (opens []) (rgC_L56 92) 100000 (0 :: [0, 0, 1, 1, 1]) (loopOf (bodyOf Try.prog 92) [1, 1, 1, 0, 0]) (cmu_St u v) []).bind (finF [0, 1, 5, 8, 9, 10, 11, 12, 13, 14, 15, 16, 17, 18, 19, 20, 21, 22, 23, 24, 25, 26, 27, 28, 29, 30, 31, 32, 33, 34, 35, 36, 37, 38, 39, 40, 41, 42, 43, 44, 45, 46, 47, 48, 49, 50, 51, 52, 53, 54, 55, 56, 57, 58, 59, 60, 61, 62, 63, 64, 65] [⟨980, none, 3, 0, 56, (.prod (.int .i64) (.list (.prod (.int .i64) (.int .i64))))⟩] [3, 2, 1, 0, 980] [1062] 1012) = (cmu_step u v).bind (outA (cmu_St u) [.exit 0]) := by
  rintro _ ⟨q0, q1, q2⟩
  kernel_rfl
noncomputable def cmu_rd (b : Bool) (o2 : Option AV) (o3 : Option AV) (o4 : Option AV) (o6 : Option AV) (o7 : Option AV) (own : Own) : Option (cmu_U × cmu_V) := zrT b <| zrO o2 fun za1 => zrA1 za1 fun zc2 => zrF 80 [] zc2 <| zrO o3 fun za3 => zrA1 za3 fun zc4 => zrP 0 0 zc4 <| zrO o4 fun za5 => zrA1 za5 fun zc6 => zrP 1 0 zc6 <| zrO o6 fun za7 => zrA1 za7 fun zc8 => zrP 2 0 zc8 <| zrO o7 fun za9 => zrA1 za9 fun zc10 => zrP 3 0 zc10 <| zrL own fun zq11 zw12 => zrKey 3 zq11 fun zk13 => zrC zk13 fun zl14 => zrL zl14 fun zc15 zr16 => zrSl 980 0 (none) zc15 <| zrN zr16 <| zrL zw12 fun zq17 zw18 => zrKey 2 zq17 fun zk19 => zrC zk19 fun zl20 => zrL zl20 fun zc21 zr22 => zrNil zc21 <| zrN zr22 <| zrL zw18 fun zq23 zw24 => zrKey 1 zq23 fun zk25 => zrC zk25 fun zl26 => zrL zl26 fun zc27 zr28 => zrD (.prod (.int .i64) (.list (.prod (.int .i64) (.int .i64)))) zc27 fun q0 => zrN zr28 <| zrL zw24 fun zq29 zw30 => zrKey 0 zq29 fun zk31 => zrC zk31 fun zl32 => zrL zl32 fun zc33 zr34 => zrD (.prod (.int .i64) (.list (.prod (.int .i64) (.int .i64)))) zc33 fun q1 => zrN zr34 <| zrL zw30 fun zq35 zw36 => zrKey 980 zq35 fun zk37 => zrR true 56 (.prod (.int .i64) (.list (.prod (.int .i64) (.int .i64)))) zk37 fun q2 => zrN zw36 <| some ((), (q0, q1, q2))
noncomputable def cmu_can (st : Stt) : Stt := canA [0, 1, 5, 8, 9, 10, 11, 12, 13, 14, 15, 16, 17, 18, 19, 20, 21, 22, 23, 24, 25, 26, 27, 28, 29, 30, 31, 32, 33, 34, 35, 36, 37, 38, 39, 40, 41, 42, 43, 44, 45, 46, 47, 48, 49, 50, 51, 52, 53, 54, 55, 56, 57, 58, 59, 60, 61, 62, 63, 64, 65] [⟨980, none, 3, 0, 56, (.prod (.int .i64) (.list (.prod (.int .i64) (.int .i64))))⟩] [3, 2, 1, 0, 980] [1062] 1012 st
noncomputable def cmu_cok (st : Stt) : Bool := canAok [0, 1, 5, 8, 9, 10, 11, 12, 13, 14, 15, 16, 17, 18, 19, 20, 21, 22, 23, 24, 25, 26, 27, 28, 29, 30, 31, 32, 33, 34, 35, 36, 37, 38, 39, 40, 41, 42, 43, 44, 45, 46, 47, 48, 49, 50, 51, 52, 53, 54, 55, 56, 57, 58, 59, 60, 61, 62, 63, 64, 65] [⟨980, none, 3, 0, 56, (.prod (.int .i64) (.list (.prod (.int .i64) (.int .i64))))⟩] [3, 2, 1, 0, 980] [1062] 1012 st
noncomputable def cmu_read (st : Stt) : Option (cmu_U × cmu_V) := cmu_rd (cmu_cok st && (staysA [⟨980, none, 3, 0, 56, (.prod (.int .i64) (.list (.prod (.int .i64) (.int .i64))))⟩] [3, 2, 1, 0, 980] st.own && juAll [0, 1, 5, 8, 9, 10, 11, 12, 13, 14, 15, 16, 17, 18, 19, 20, 21, 22, 23, 24, 25, 26, 27, 28, 29, 30, 31, 32, 33, 34, 35, 36, 37, 38, 39, 40, 41, 42, 43, 44, 45, 46, 47, 48, 49, 50, 51, 52, 53, 54, 55, 56, 57, 58, 59, 60, 61, 62, 63, 64, 65] (cmu_can st).tm 66)) (cmu_can st).tm[2]? (cmu_can st).tm[3]? (cmu_can st).tm[4]? (cmu_can st).tm[6]? (cmu_can st).tm[7]? (cmu_can st).own
set_option maxRecDepth 100000 in
set_option maxHeartbeats 4000000 in
theorem cmu_rd_ok {b : Bool} {tm : List AV} {own : Own} {u : cmu_U} {v : cmu_V} (hj : b = true → juAll [0, 1, 5, 8, 9, 10, 11, 12, 13, 14, 15, 16, 17, 18, 19, 20, 21, 22, 23, 24, 25, 26, 27, 28, 29, 30, 31, 32, 33, 34, 35, 36, 37, 38, 39, 40, 41, 42, 43, 44, 45, 46, 47, 48, 49, 50, 51, 52, 53, 54, 55, 56, 57, 58, 59, 60, 61, 62, 63, 64, 65] tm 66 = true) (h : cmu_rd b tm[2]? tm[3]? tm[4]? tm[6]? tm[7]? own = some (u, v)) : b = true ∧ tm = (cmu_St u v).tm ∧ own = (cmu_St u v).own := by
  unfold cmu_rd at h
  obtain ⟨rfl, h0⟩ := zrT_some h
  obtain ⟨za1, e2, h1⟩ := zrO_some h0
  obtain ⟨zc2, rfl, h2⟩ := zrA1_some h1
  obtain ⟨rfl, h3⟩ := zrF_some h2
  obtain ⟨za3, e3, h4⟩ := zrO_some h3
  obtain ⟨zc4, rfl, h5⟩ := zrA1_some h4
  obtain ⟨rfl, h6⟩ := zrP_some h5
  obtain ⟨za5, e4, h7⟩ := zrO_some h6
  obtain ⟨zc6, rfl, h8⟩ := zrA1_some h7
  obtain ⟨rfl, h9⟩ := zrP_some h8
  obtain ⟨za7, e6, h10⟩ := zrO_some h9
  obtain ⟨zc8, rfl, h11⟩ := zrA1_some h10
  obtain ⟨rfl, h12⟩ := zrP_some h11
  obtain ⟨za9, e7, h13⟩ := zrO_some h12
  obtain ⟨zc10, rfl, h14⟩ := zrA1_some h13
  obtain ⟨rfl, h15⟩ := zrP_some h14
  obtain ⟨zq11, zw12, rfl, h16⟩ := zrL_some h15
  obtain ⟨zk13, rfl, h17⟩ := zrKey_some h16
  obtain ⟨zl14, rfl, h18⟩ := zrC_some h17
  obtain ⟨zc15, zr16, rfl, h19⟩ := zrL_some h18
  obtain ⟨rfl, h20⟩ := zrSl_some h19
  obtain ⟨rfl, h21⟩ := zrN_some h20
  obtain ⟨zq17, zw18, rfl, h22⟩ := zrL_some h21
  obtain ⟨zk19, rfl, h23⟩ := zrKey_some h22
  obtain ⟨zl20, rfl, h24⟩ := zrC_some h23
  obtain ⟨zc21, zr22, rfl, h25⟩ := zrL_some h24
  obtain ⟨rfl, h26⟩ := zrNil_some h25
  obtain ⟨rfl, h27⟩ := zrN_some h26
  obtain ⟨zq23, zw24, rfl, h28⟩ := zrL_some h27
  obtain ⟨zk25, rfl, h29⟩ := zrKey_some h28
  obtain ⟨zl26, rfl, h30⟩ := zrC_some h29
  obtain ⟨zc27, zr28, rfl, h31⟩ := zrL_some h30
  obtain ⟨q0, rfl, h32⟩ := zrD_some h31
  obtain ⟨rfl, h33⟩ := zrN_some h32
  obtain ⟨zq29, zw30, rfl, h34⟩ := zrL_some h33
  obtain ⟨zk31, rfl, h35⟩ := zrKey_some h34
  obtain ⟨zl32, rfl, h36⟩ := zrC_some h35
  obtain ⟨zc33, zr34, rfl, h37⟩ := zrL_some h36
  obtain ⟨q1, rfl, h38⟩ := zrD_some h37
  obtain ⟨rfl, h39⟩ := zrN_some h38
  obtain ⟨zq35, zw36, rfl, h40⟩ := zrL_some h39
  obtain ⟨zk37, rfl, h41⟩ := zrKey_some h40
  obtain ⟨q2, rfl, h42⟩ := zrR_some h41
  obtain ⟨rfl, h43⟩ := zrN_some h42
  have h := Option.some.inj h43
  have hu := congrArg Prod.fst h
  have hv := congrArg Prod.snd h
  dsimp only at hu hv
  subst hu
  subst hv
  exact ⟨rfl, (tm_fill (hj rfl) (Lv := [(2, .one (.fn 80 [])), (3, .one (.p 0 0)), (4, .one (.p 1 0)), (6, .one (.p 2 0)), (7, .one (.p 3 0))]) (by kernel_rfl) ⟨e2, e3, e4, e6, e7, trivial⟩).trans (by kernel_rfl), rfl⟩
theorem cmu_read_ok (st : Stt) (u : cmu_U) (v : cmu_V) (h : cmu_read st = some (u, v)) : cmu_cok st = true ∧ staysA [⟨980, none, 3, 0, 56, (.prod (.int .i64) (.list (.prod (.int .i64) (.int .i64))))⟩] [3, 2, 1, 0, 980] st.own = true ∧ cmu_can st = cmu_St u v := by
  obtain ⟨h1, h2, h3⟩ := cmu_rd_ok (fun hb => by rw [Bool.and_eq_true, Bool.and_eq_true] at hb; exact hb.2.2) h
  rw [Bool.and_eq_true, Bool.and_eq_true] at h1
  refine ⟨h1.1, h1.2.1, ?_⟩
  have e : cmu_can st = ⟨(cmu_can st).tm, (cmu_can st).own, 1012⟩ := by kernel_rfl
  rw [e, h2, h3]
  rfl
noncomputable def cmu_cond (u : cmu_U) (v : cmu_V) : Bool := runC (cmu_step u) v
noncomputable def cmu_g (u : cmu_U) (v : cmu_V) : Nat × cmu_V := runG (cmu_step u) v
theorem cmu_hg : ∀ (u : cmu_U) (v : cmu_V), cmu_cond u v = true → loopN (cmu_step u) ((fun u v => runF (cmu_step u) v) u v) v = some (cmu_g u v) := by
  exact fun u v h => run_hg h
noncomputable def cmu_m (st : Stt) : Option (Tr (Ex × Stt)) := sumM cmu_read cmu_cond cmu_St cmu_g [(0, .exit 0)] st
noncomputable def rgD_L53 : FuncId → Loops := addL 92 [0, 0, 1, 1, 1] cmu_m rgC_L56
set_option maxRecDepth 100000 in
set_option maxHeartbeats 4000000 in
theorem rgD_L53_ok : LoopsOK Try.prog rgD_L53 :=
  loop_sumF (body := (bodyOf Try.prog 92)) (c := (loopOf (bodyOf Try.prog 92) [1, 1, 1, 0, 0])) (kinds := [.exit 0]) (allow := [(0, .exit 0)]) (St := cmu_St) (step := cmu_step) (W := [0, 1, 5, 8, 9, 10, 11, 12, 13, 14, 15, 16, 17, 18, 19, 20, 21, 22, 23, 24, 25, 26, 27, 28, 29, 30, 31, 32, 33, 34, 35, 36, 37, 38, 39, 40, 41, 42, 43, 44, 45, 46, 47, 48, 49, 50, 51, 52, 53, 54, 55, 56, 57, 58, 59, 60, 61, 62, 63, 64, 65]) (As := [⟨980, none, 3, 0, 56, (.prod (.int .i64) (.list (.prod (.int .i64) (.int .i64))))⟩]) (ks := [3, 2, 1, 0, 980]) (dd := [1062]) (nx := 1012) (n := 100000) (g := cmu_g) (cond := cmu_cond) (fuel := (fun u v => runF (cmu_step u) v)) (read := cmu_read) (by kernel_rfl) (rgD_S52_ok) (rgC_L56_ok) 7 ⟨Try.f92, by kernel_rfl, by kernel_rfl⟩ (by kernel_rfl) (by kernel_rfl) (by kernel_rfl) cmu_step_eq cmu_hg cmu_read_ok
theorem cmu_run {A B : Rg} (ha : valG A) (hb : valG B) : cmu_cond () (B, A, []) = true ∧ (cmu_g () (B, A, [])).1 = 0 ∧ (cmu_g () (B, A, [])).2.2.2 = combG 2 (A.length + B.length) A B := by
  have la := ng_len ha (by omega)
  have lb := ng_len hb (by omega)
  refine run_val (step := cmu_step ()) (Inv := fun s => ∃ (X Y res : Rg) (n : Nat) (lo : Int), s = (Y, X, res) ∧ Ng lo X ∧ Ng lo Y ∧ X.length + Y.length ≤ n ∧ res.length + n ≤ 20000 ∧ res ++ combG 2 n X Y = combG 2 (A.length + B.length) A B) (μ := fun s => s.2.1.length + s.1.length) (Q := fun t => t.1 = 0 ∧ t.2.2.2 = combG 2 (A.length + B.length) A B) ?_ _ _ (Nat.lt_succ_self _) ⟨A, B, [], A.length + B.length, -4097, rfl, ha, hb, Nat.le_refl _, by simp only [List.length_nil]; omega, rfl⟩
  rintro s ⟨X, Y, res, n, lo, rfl, hx, hy, hn, hr, ht⟩
  by_cases g : 0 < X.length ∨ 0 < Y.length
  · obtain ⟨l1, l2, l3, l4, l5, l6⟩ := low_ok hx hy g
    obtain ⟨a1, a2, a3, a4, a5, a6⟩ := spl_ok hx l4
    obtain ⟨b1, b2, b3, b4, b5, b6⟩ := spl_ok hy l5
    have n0 : 0 < n := by omega
    obtain ⟨n, rfl⟩ : ∃ k, n = k + 1 := ⟨n - 1, by omega⟩
    have gd : (decide (0 < X.length) || decide (0 < Y.length)) = true := by rw [Bool.or_eq_true, decide_eq_true_eq, decide_eq_true_eq]; exact g
    have c0 : (bif decide ((X.length : Int) > (0 : Int)) then true else decide ((Y.length : Int) > (0 : Int))) = true := by
      by_cases h : 0 < X.length
      · rw [decide_eq_true (show (X.length : Int) > 0 by omega)]; rfl
      · rw [decide_eq_true (show (Y.length : Int) > 0 by omega)]; cases decide ((X.length : Int) > (0 : Int)) <;> rfl
    have sx : (spl X (lowG X Y)).1.length ≤ 10000 := by have := nr_len (nr_range a4 a5).1; have := (nr_range a4 a5).2; omega
    have sy : (spl Y (lowG X Y)).1.length ≤ 10000 := by have := nr_len (nr_range b4 b5).1; have := (nr_range b4 b5).2; omega
    have ec : combG 2 (n + 1) X Y = emit (lowG X Y) (chL (spl X (lowG X Y)).1 (spl Y (lowG X Y)).1 2) ++ combG 2 n (spl X (lowG X Y)).2 (spl Y (lowG X Y)).2 := by
      show (bif (decide (0 < X.length) || decide (0 < Y.length)) then _ else _) = _
      rw [gd]; rfl
    obtain ⟨r1, r2⟩ := room32 (n := res.length + 1) (by omega)
    refine ⟨.inl ((spl Y (lowG X Y)).2, (spl X (lowG X Y)).2, res ++ emit (lowG X Y) (chL (spl X (lowG X Y)).1 (spl Y (lowG X Y)).1 2)), ?_, ⟨_, _, _, n, _, rfl, a1, b1, by omega, ?_, ?_⟩, by show (spl X (lowG X Y)).2.length + (spl Y (lowG X Y)).2.length < X.length + Y.length; omega⟩
    · simp only [cmu_step, Tr.val, c0, gd, decide_eq_true sx, decide_eq_true sy, r1, r2, Bool.and_self, cond_true]
      unfold emit
      by_cases h0 : 0 < (chL (spl X (lowG X Y)).1 (spl Y (lowG X Y)).1 2).length
      · have d : decide (((chL (spl X (lowG X Y)).1 (spl Y (lowG X Y)).1 2).length : Int) > (0 : Int)) = true := decide_eq_true (by omega)
        simp only [d, decide_eq_true h0, cond_true]
      · have d : decide (((chL (spl X (lowG X Y)).1 (spl Y (lowG X Y)).1 2).length : Int) > (0 : Int)) = false := decide_eq_false (by omega)
        simp only [d, decide_eq_false h0, cond_false, List.append_nil]
    · have : (emit (lowG X Y) (chL (spl X (lowG X Y)).1 (spl Y (lowG X Y)).1 2)).length ≤ 1 := by unfold emit; cases decide (0 < (chL (spl X (lowG X Y)).1 (spl Y (lowG X Y)).1 2).length) <;> simp
      rw [List.length_append]; omega
    · rw [List.append_assoc, ← ec]; exact ht
  · have c0 : (bif decide ((X.length : Int) > (0 : Int)) then true else decide ((Y.length : Int) > (0 : Int))) = false := by
      rw [decide_eq_false (show ¬ (X.length : Int) > 0 by omega), decide_eq_false (show ¬ (Y.length : Int) > 0 by omega)]; rfl
    have e1 : X = [] := List.length_eq_zero_iff.1 (by omega)
    have e2 : Y = [] := List.length_eq_zero_iff.1 (by omega)
    rw [e1, e2, combG_nil, List.append_nil] at ht
    exact ⟨.inr (0, (Y, X, res)), by simp only [cmu_step, Tr.val, c0, cond_false], rfl, ht⟩
set_option maxRecDepth 100000 in
theorem cmuc_tree (A : (Ty.list (.prod (.int .i64) (.list (.prod (.int .i64) (.int .i64))))).den) (B : (Ty.list (.prod (.int .i64) (.list (.prod (.int .i64) (.int .i64))))).den) : evalF Try.prog rgD_S52 (opens []) rgD_L53 9 66 [.ag [.d false false (.prod (.int .i64) (.list (.prod (.int .i64) (.int .i64)))) A], .ag [.d false false (.prod (.int .i64) (.list (.prod (.int .i64) (.int .i64)))) B]] = .br ((((szG A) && (bif !valGB A then true else ((szG B) && (bif !valGB B then true else ((cmu_cond () (B, A, [])) && (Nat.beq (Prod.fst (cmu_g () (B, A, []))) (0 : Nat))))))))) (.ret (.ag [.d false false (.prod (.int .i64) (.list (.prod (.int .i64) (.int .i64)))) (bif !valGB A then [] else bif !valGB B then [] else Prod.snd (Prod.snd (Prod.snd (cmu_g () (B, A, [])))))])) (.bad 116) := by kernel_rfl
theorem cmuc_val (A : (Ty.list (.prod (.int .i64) (.list (.prod (.int .i64) (.int .i64))))).den) (B : (Ty.list (.prod (.int .i64) (.list (.prod (.int .i64) (.int .i64))))).den) (hc : (szG A && szG B) = true) : (.br ((((szG A) && (bif !valGB A then true else ((szG B) && (bif !valGB B then true else ((cmu_cond () (B, A, [])) && (Nat.beq (Prod.fst (cmu_g () (B, A, []))) (0 : Nat))))))))) (.ret (.ag [.d false false (.prod (.int .i64) (.list (.prod (.int .i64) (.int .i64)))) (bif !valGB A then [] else bif !valGB B then [] else Prod.snd (Prod.snd (Prod.snd (cmu_g () (B, A, [])))))])) (.bad 116) : Tr AV).val = some (.ag [.d false false (.prod (.int .i64) (.list (.prod (.int .i64) (.int .i64)))) (opR 2 A B)]) := by
  obtain ⟨K, rfl⟩ : ∃ K : Rg, K = A := ⟨A, rfl⟩
  obtain ⟨M, rfl⟩ : ∃ K : Rg, K = B := ⟨B, rfl⟩
  rw [Bool.and_eq_true] at hc
  have hs : szG K = true := hc.1
  have hs2 : szG M = true := hc.2
  unfold opR
  show cond _ _ _ = _
  cases hv : valGB K
  · simp only [hs, Bool.not_false, Bool.and_self, Bool.false_and, cond_true, cond_false, Tr.val]
  · cases hw : valGB M
    · simp only [hs, hs2, Bool.not_false, Bool.not_true, Bool.and_self, Bool.and_false, cond_true, cond_false, Tr.val]
    · obtain ⟨v1, v2, v3⟩ := cmu_run (valGB_iff.1 hv) (valGB_iff.1 hw)
      simp only [hs, hs2, v1, v2, v3, Nat.beq, Bool.not_true, Bool.and_self, cond_true, cond_false, Tr.val]
noncomputable def cmuc_g : List AV → Option (Tr AV)
  | [.ag [.d _ _ (.prod (.int .i64) (.list (.prod (.int .i64) (.int .i64)))) A], .ag [.d _ _ (.prod (.int .i64) (.list (.prod (.int .i64) (.int .i64)))) B]] => some (.br (szG A && szG B) (.ret (.ag [.d false false (.prod (.int .i64) (.list (.prod (.int .i64) (.int .i64)))) (opR 2 A B)])) (.bad 900))
  | _ => none
set_option maxHeartbeats 4000000 in
theorem cmuc_ok : FunOK Try.prog 66 cmuc_g := by
  refine fun_ok (by kernel_rfl) (rgD_S52_ok) (rgD_L53_ok) 9 (On := (opens [])) (fun args t h => ?_)
  unfold cmuc_g at h
  split at h
  · rename_i _ _ A _ _ B
    simp only [Option.some.injEq] at h
    subst h
    refine ⟨[.ag [.d false false (.prod (.int .i64) (.list (.prod (.int .i64) (.int .i64)))) A], .ag [.d false false (.prod (.int .i64) (.list (.prod (.int .i64) (.int .i64)))) B]], rfl, fun fr w us h => h, fun r hr => ?_⟩
    obtain ⟨hc, hr⟩ := br_bad hr
    simp only [Tr.val, Option.some.injEq] at hr
    subst hr
    rw [cmuc_tree]
    exact cmuc_val A B hc
  · cases h
noncomputable def rgD_S54 : Sums := addS 66 cmuc_g rgD_S52
theorem rgD_S54_ok : SumOK Try.prog rgD_S54 := addS_ok (cmuc_ok) (rgD_S52_ok)
noncomputable def cmi_St (u : cmu_U) (v : cmu_V) : Stt := ⟨[.one .junk, .one .junk, .one (.fn 89 []), .one (.p 0 0), .one (.p 1 0), .one .junk, .one (.p 2 0), .one (.p 3 0), .one .junk, .one .junk, .one .junk, .one .junk, .one .junk, .one .junk, .one .junk, .one .junk, .one .junk, .one .junk, .one .junk, .one .junk, .one .junk, .one .junk, .one .junk, .one .junk, .one .junk, .one .junk, .one .junk, .one .junk, .one .junk, .one .junk, .one .junk, .one .junk, .one .junk, .one .junk, .one .junk, .one .junk, .one .junk, .one .junk, .one .junk, .one .junk, .one .junk, .one .junk, .one .junk, .one .junk, .one .junk, .one .junk, .one .junk, .one .junk, .one .junk, .one .junk, .one .junk, .one .junk, .one .junk, .one .junk, .one .junk, .one .junk, .one .junk, .one .junk, .one .junk, .one .junk, .one .junk, .one .junk, .one .junk, .one .junk, .one .junk, .one .junk], [(3, .cells [.s false 980 0 (none)]), (2, .cells [.v false (Value.slice none (0 : Nat) (0 : Nat))]), (1, .cells [.d false false (.prod (.int .i64) (.list (.prod (.int .i64) (.int .i64)))) v.1]), (0, .cells [.d false false (.prod (.int .i64) (.list (.prod (.int .i64) (.int .i64)))) v.2.1]), (980, .row true false false 56 (.prod (.int .i64) (.list (.prod (.int .i64) (.int .i64)))) v.2.2)], 1012⟩
noncomputable def cmi_step (u : cmu_U) (v : cmu_V) : Tr (cmu_V ⊕ (Nat × cmu_V)) :=
  match u, v with
  | _, (q0, q1, q2) => .br (bif decide ((↑(List.length q1) : Int) > (0 : Int)) then true else decide ((↑(List.length q0) : Int) > (0 : Int))) (.br (decide ((0 : Nat) < List.length q1) || decide ((0 : Nat) < List.length q0)) (.br ((decide (List.length (Prod.fst (spl q1 (lowG q1 q0))) ≤ (10000 : Nat)) && decide (List.length (Prod.fst (spl q0 (lowG q1 q0))) ≤ (10000 : Nat)))) (.br (decide ((↑(List.length (chL (Prod.fst (spl q1 (lowG q1 q0))) (Prod.fst (spl q0 (lowG q1 q0))) (1 : Int))) : Int) > (0 : Int))) (.br (decide ((List.length q2 + (1 : Nat)) * (32 : Nat) ≤ maxNew) && decide (List.length q2 + (1 : Nat) ≤ maxLen)) (.ret (.inl (Prod.snd (spl q0 (lowG q1 q0)), Prod.snd (spl q1 (lowG q1 q0)), q2 ++ [(lowG q1 q0, chL (Prod.fst (spl q1 (lowG q1 q0))) (Prod.fst (spl q0 (lowG q1 q0))) (1 : Int))]))) (.bad 71)) (.ret (.inl (Prod.snd (spl q0 (lowG q1 q0)), Prod.snd (spl q1 (lowG q1 q0)), q2)))) (.bad 116)) (.bad 900)) (.ret (.inr (0, (q0, q1, q2))))
set_option maxRecDepth 100000 in
set_option maxHeartbeats 4000000 in
theorem cmi_step_eq : ∀ (u : cmu_U) (v : cmu_V), (evalC Try.prog (evalB Try.prog rgD_S54 (opens []) rgD_L53 7).1 (evalB Try.prog rgD_S54 (opens []) rgD_L53 7).2 (opens []) (rgD_L53 92) 100000 (0 :: [0, 0, 1, 1, 1]) (loopOf (bodyOf Try.prog 92) [1, 1, 1, 0, 0]) (cmi_St u v) []).bind (finF [0, 1, 5, 8, 9, 10, 11, 12, 13, 14, 15, 16, 17, 18, 19, 20, 21, 22, 23, 24, 25, 26, 27, 28, 29, 30, 31, 32, 33, 34, 35, 36, 37, 38, 39, 40, 41, 42, 43, 44, 45, 46, 47, 48, 49, 50, 51, 52, 53, 54, 55, 56, 57, 58, 59, 60, 61, 62, 63, 64, 65] [⟨980, none, 3, 0, 56, (.prod (.int .i64) (.list (.prod (.int .i64) (.int .i64))))⟩] [3, 2, 1, 0, 980] [1062] 1012) = (cmi_step u v).bind (outA (cmi_St u) [.exit 0]) := by
  rintro _ ⟨q0, q1, q2⟩
  kernel_rfl
noncomputable def cmi_rd (b : Bool) (o2 : Option AV) (o3 : Option AV) (o4 : Option AV) (o6 : Option AV) (o7 : Option AV) (own : Own) : Option (cmu_U × cmu_V) := zrT b <| zrO o2 fun za1 => zrA1 za1 fun zc2 => zrF 89 [] zc2 <| zrO o3 fun za3 => zrA1 za3 fun zc4 => zrP 0 0 zc4 <| zrO o4 fun za5 => zrA1 za5 fun zc6 => zrP 1 0 zc6 <| zrO o6 fun za7 => zrA1 za7 fun zc8 => zrP 2 0 zc8 <| zrO o7 fun za9 => zrA1 za9 fun zc10 => zrP 3 0 zc10 <| zrL own fun zq11 zw12 => zrKey 3 zq11 fun zk13 => zrC zk13 fun zl14 => zrL zl14 fun zc15 zr16 => zrSl 980 0 (none) zc15 <| zrN zr16 <| zrL zw12 fun zq17 zw18 => zrKey 2 zq17 fun zk19 => zrC zk19 fun zl20 => zrL zl20 fun zc21 zr22 => zrNil zc21 <| zrN zr22 <| zrL zw18 fun zq23 zw24 => zrKey 1 zq23 fun zk25 => zrC zk25 fun zl26 => zrL zl26 fun zc27 zr28 => zrD (.prod (.int .i64) (.list (.prod (.int .i64) (.int .i64)))) zc27 fun q0 => zrN zr28 <| zrL zw24 fun zq29 zw30 => zrKey 0 zq29 fun zk31 => zrC zk31 fun zl32 => zrL zl32 fun zc33 zr34 => zrD (.prod (.int .i64) (.list (.prod (.int .i64) (.int .i64)))) zc33 fun q1 => zrN zr34 <| zrL zw30 fun zq35 zw36 => zrKey 980 zq35 fun zk37 => zrR true 56 (.prod (.int .i64) (.list (.prod (.int .i64) (.int .i64)))) zk37 fun q2 => zrN zw36 <| some ((), (q0, q1, q2))
noncomputable def cmi_read (st : Stt) : Option (cmu_U × cmu_V) := cmi_rd (cmu_cok st && (staysA [⟨980, none, 3, 0, 56, (.prod (.int .i64) (.list (.prod (.int .i64) (.int .i64))))⟩] [3, 2, 1, 0, 980] st.own && juAll [0, 1, 5, 8, 9, 10, 11, 12, 13, 14, 15, 16, 17, 18, 19, 20, 21, 22, 23, 24, 25, 26, 27, 28, 29, 30, 31, 32, 33, 34, 35, 36, 37, 38, 39, 40, 41, 42, 43, 44, 45, 46, 47, 48, 49, 50, 51, 52, 53, 54, 55, 56, 57, 58, 59, 60, 61, 62, 63, 64, 65] (cmu_can st).tm 66)) (cmu_can st).tm[2]? (cmu_can st).tm[3]? (cmu_can st).tm[4]? (cmu_can st).tm[6]? (cmu_can st).tm[7]? (cmu_can st).own
set_option maxRecDepth 100000 in
set_option maxHeartbeats 4000000 in
theorem cmi_rd_ok {b : Bool} {tm : List AV} {own : Own} {u : cmu_U} {v : cmu_V} (hj : b = true → juAll [0, 1, 5, 8, 9, 10, 11, 12, 13, 14, 15, 16, 17, 18, 19, 20, 21, 22, 23, 24, 25, 26, 27, 28, 29, 30, 31, 32, 33, 34, 35, 36, 37, 38, 39, 40, 41, 42, 43, 44, 45, 46, 47, 48, 49, 50, 51, 52, 53, 54, 55, 56, 57, 58, 59, 60, 61, 62, 63, 64, 65] tm 66 = true) (h : cmi_rd b tm[2]? tm[3]? tm[4]? tm[6]? tm[7]? own = some (u, v)) : b = true ∧ tm = (cmi_St u v).tm ∧ own = (cmi_St u v).own := by
  unfold cmi_rd at h
  obtain ⟨rfl, h0⟩ := zrT_some h
  obtain ⟨za1, e2, h1⟩ := zrO_some h0
  obtain ⟨zc2, rfl, h2⟩ := zrA1_some h1
  obtain ⟨rfl, h3⟩ := zrF_some h2
  obtain ⟨za3, e3, h4⟩ := zrO_some h3
  obtain ⟨zc4, rfl, h5⟩ := zrA1_some h4
  obtain ⟨rfl, h6⟩ := zrP_some h5
  obtain ⟨za5, e4, h7⟩ := zrO_some h6
  obtain ⟨zc6, rfl, h8⟩ := zrA1_some h7
  obtain ⟨rfl, h9⟩ := zrP_some h8
  obtain ⟨za7, e6, h10⟩ := zrO_some h9
  obtain ⟨zc8, rfl, h11⟩ := zrA1_some h10
  obtain ⟨rfl, h12⟩ := zrP_some h11
  obtain ⟨za9, e7, h13⟩ := zrO_some h12
  obtain ⟨zc10, rfl, h14⟩ := zrA1_some h13
  obtain ⟨rfl, h15⟩ := zrP_some h14
  obtain ⟨zq11, zw12, rfl, h16⟩ := zrL_some h15
  obtain ⟨zk13, rfl, h17⟩ := zrKey_some h16
  obtain ⟨zl14, rfl, h18⟩ := zrC_some h17
  obtain ⟨zc15, zr16, rfl, h19⟩ := zrL_some h18
  obtain ⟨rfl, h20⟩ := zrSl_some h19
  obtain ⟨rfl, h21⟩ := zrN_some h20
  obtain ⟨zq17, zw18, rfl, h22⟩ := zrL_some h21
  obtain ⟨zk19, rfl, h23⟩ := zrKey_some h22
  obtain ⟨zl20, rfl, h24⟩ := zrC_some h23
  obtain ⟨zc21, zr22, rfl, h25⟩ := zrL_some h24
  obtain ⟨rfl, h26⟩ := zrNil_some h25
  obtain ⟨rfl, h27⟩ := zrN_some h26
  obtain ⟨zq23, zw24, rfl, h28⟩ := zrL_some h27
  obtain ⟨zk25, rfl, h29⟩ := zrKey_some h28
  obtain ⟨zl26, rfl, h30⟩ := zrC_some h29
  obtain ⟨zc27, zr28, rfl, h31⟩ := zrL_some h30
  obtain ⟨q0, rfl, h32⟩ := zrD_some h31
  obtain ⟨rfl, h33⟩ := zrN_some h32
  obtain ⟨zq29, zw30, rfl, h34⟩ := zrL_some h33
  obtain ⟨zk31, rfl, h35⟩ := zrKey_some h34
  obtain ⟨zl32, rfl, h36⟩ := zrC_some h35
  obtain ⟨zc33, zr34, rfl, h37⟩ := zrL_some h36
  obtain ⟨q1, rfl, h38⟩ := zrD_some h37
  obtain ⟨rfl, h39⟩ := zrN_some h38
  obtain ⟨zq35, zw36, rfl, h40⟩ := zrL_some h39
  obtain ⟨zk37, rfl, h41⟩ := zrKey_some h40
  obtain ⟨q2, rfl, h42⟩ := zrR_some h41
  obtain ⟨rfl, h43⟩ := zrN_some h42
  have h := Option.some.inj h43
  have hu := congrArg Prod.fst h
  have hv := congrArg Prod.snd h
  dsimp only at hu hv
  subst hu
  subst hv
  exact ⟨rfl, (tm_fill (hj rfl) (Lv := [(2, .one (.fn 89 [])), (3, .one (.p 0 0)), (4, .one (.p 1 0)), (6, .one (.p 2 0)), (7, .one (.p 3 0))]) (by kernel_rfl) ⟨e2, e3, e4, e6, e7, trivial⟩).trans (by kernel_rfl), rfl⟩
theorem cmi_read_ok (st : Stt) (u : cmu_U) (v : cmu_V) (h : cmi_read st = some (u, v)) : cmu_cok st = true ∧ staysA [⟨980, none, 3, 0, 56, (.prod (.int .i64) (.list (.prod (.int .i64) (.int .i64))))⟩] [3, 2, 1, 0, 980] st.own = true ∧ cmu_can st = cmi_St u v := by
  obtain ⟨h1, h2, h3⟩ := cmi_rd_ok (fun hb => by rw [Bool.and_eq_true, Bool.and_eq_true] at hb; exact hb.2.2) h
  rw [Bool.and_eq_true, Bool.and_eq_true] at h1
  refine ⟨h1.1, h1.2.1, ?_⟩
  have e : cmu_can st = ⟨(cmu_can st).tm, (cmu_can st).own, 1012⟩ := by kernel_rfl
  rw [e, h2, h3]
  rfl
noncomputable def cmi_cond (u : cmu_U) (v : cmu_V) : Bool := runC (cmi_step u) v
noncomputable def cmi_g (u : cmu_U) (v : cmu_V) : Nat × cmu_V := runG (cmi_step u) v
theorem cmi_hg : ∀ (u : cmu_U) (v : cmu_V), cmi_cond u v = true → loopN (cmi_step u) ((fun u v => runF (cmi_step u) v) u v) v = some (cmi_g u v) := by
  exact fun u v h => run_hg h
noncomputable def cmi_m (st : Stt) : Option (Tr (Ex × Stt)) := sumM cmi_read cmi_cond cmi_St cmi_g [(0, .exit 0)] st
noncomputable def rgD_L55 : FuncId → Loops := addL 92 [0, 0, 1, 1, 1] cmi_m rgD_L53
set_option maxRecDepth 100000 in
set_option maxHeartbeats 4000000 in
theorem rgD_L55_ok : LoopsOK Try.prog rgD_L55 :=
  loop_sumF (body := (bodyOf Try.prog 92)) (c := (loopOf (bodyOf Try.prog 92) [1, 1, 1, 0, 0])) (kinds := [.exit 0]) (allow := [(0, .exit 0)]) (St := cmi_St) (step := cmi_step) (W := [0, 1, 5, 8, 9, 10, 11, 12, 13, 14, 15, 16, 17, 18, 19, 20, 21, 22, 23, 24, 25, 26, 27, 28, 29, 30, 31, 32, 33, 34, 35, 36, 37, 38, 39, 40, 41, 42, 43, 44, 45, 46, 47, 48, 49, 50, 51, 52, 53, 54, 55, 56, 57, 58, 59, 60, 61, 62, 63, 64, 65]) (As := [⟨980, none, 3, 0, 56, (.prod (.int .i64) (.list (.prod (.int .i64) (.int .i64))))⟩]) (ks := [3, 2, 1, 0, 980]) (dd := [1062]) (nx := 1012) (n := 100000) (g := cmi_g) (cond := cmi_cond) (fuel := (fun u v => runF (cmi_step u) v)) (read := cmi_read) (by kernel_rfl) (rgD_S54_ok) (rgD_L53_ok) 7 ⟨Try.f92, by kernel_rfl, by kernel_rfl⟩ (by kernel_rfl) (by kernel_rfl) (by kernel_rfl) cmi_step_eq cmi_hg cmi_read_ok
theorem cmi_run {A B : Rg} (ha : valG A) (hb : valG B) : cmi_cond () (B, A, []) = true ∧ (cmi_g () (B, A, [])).1 = 0 ∧ (cmi_g () (B, A, [])).2.2.2 = combG 1 (A.length + B.length) A B := by
  have la := ng_len ha (by omega)
  have lb := ng_len hb (by omega)
  refine run_val (step := cmi_step ()) (Inv := fun s => ∃ (X Y res : Rg) (n : Nat) (lo : Int), s = (Y, X, res) ∧ Ng lo X ∧ Ng lo Y ∧ X.length + Y.length ≤ n ∧ res.length + n ≤ 20000 ∧ res ++ combG 1 n X Y = combG 1 (A.length + B.length) A B) (μ := fun s => s.2.1.length + s.1.length) (Q := fun t => t.1 = 0 ∧ t.2.2.2 = combG 1 (A.length + B.length) A B) ?_ _ _ (Nat.lt_succ_self _) ⟨A, B, [], A.length + B.length, -4097, rfl, ha, hb, Nat.le_refl _, by simp only [List.length_nil]; omega, rfl⟩
  rintro s ⟨X, Y, res, n, lo, rfl, hx, hy, hn, hr, ht⟩
  by_cases g : 0 < X.length ∨ 0 < Y.length
  · obtain ⟨l1, l2, l3, l4, l5, l6⟩ := low_ok hx hy g
    obtain ⟨a1, a2, a3, a4, a5, a6⟩ := spl_ok hx l4
    obtain ⟨b1, b2, b3, b4, b5, b6⟩ := spl_ok hy l5
    have n0 : 0 < n := by omega
    obtain ⟨n, rfl⟩ : ∃ k, n = k + 1 := ⟨n - 1, by omega⟩
    have gd : (decide (0 < X.length) || decide (0 < Y.length)) = true := by rw [Bool.or_eq_true, decide_eq_true_eq, decide_eq_true_eq]; exact g
    have c0 : (bif decide ((X.length : Int) > (0 : Int)) then true else decide ((Y.length : Int) > (0 : Int))) = true := by
      by_cases h : 0 < X.length
      · rw [decide_eq_true (show (X.length : Int) > 0 by omega)]; rfl
      · rw [decide_eq_true (show (Y.length : Int) > 0 by omega)]; cases decide ((X.length : Int) > (0 : Int)) <;> rfl
    have sx : (spl X (lowG X Y)).1.length ≤ 10000 := by have := nr_len (nr_range a4 a5).1; have := (nr_range a4 a5).2; omega
    have sy : (spl Y (lowG X Y)).1.length ≤ 10000 := by have := nr_len (nr_range b4 b5).1; have := (nr_range b4 b5).2; omega
    have ec : combG 1 (n + 1) X Y = emit (lowG X Y) (chL (spl X (lowG X Y)).1 (spl Y (lowG X Y)).1 1) ++ combG 1 n (spl X (lowG X Y)).2 (spl Y (lowG X Y)).2 := by
      show (bif (decide (0 < X.length) || decide (0 < Y.length)) then _ else _) = _
      rw [gd]; rfl
    obtain ⟨r1, r2⟩ := room32 (n := res.length + 1) (by omega)
    refine ⟨.inl ((spl Y (lowG X Y)).2, (spl X (lowG X Y)).2, res ++ emit (lowG X Y) (chL (spl X (lowG X Y)).1 (spl Y (lowG X Y)).1 1)), ?_, ⟨_, _, _, n, _, rfl, a1, b1, by omega, ?_, ?_⟩, by show (spl X (lowG X Y)).2.length + (spl Y (lowG X Y)).2.length < X.length + Y.length; omega⟩
    · simp only [cmi_step, Tr.val, c0, gd, decide_eq_true sx, decide_eq_true sy, r1, r2, Bool.and_self, cond_true]
      unfold emit
      by_cases h0 : 0 < (chL (spl X (lowG X Y)).1 (spl Y (lowG X Y)).1 1).length
      · have d : decide (((chL (spl X (lowG X Y)).1 (spl Y (lowG X Y)).1 1).length : Int) > (0 : Int)) = true := decide_eq_true (by omega)
        simp only [d, decide_eq_true h0, cond_true]
      · have d : decide (((chL (spl X (lowG X Y)).1 (spl Y (lowG X Y)).1 1).length : Int) > (0 : Int)) = false := decide_eq_false (by omega)
        simp only [d, decide_eq_false h0, cond_false, List.append_nil]
    · have : (emit (lowG X Y) (chL (spl X (lowG X Y)).1 (spl Y (lowG X Y)).1 1)).length ≤ 1 := by unfold emit; cases decide (0 < (chL (spl X (lowG X Y)).1 (spl Y (lowG X Y)).1 1).length) <;> simp
      rw [List.length_append]; omega
    · rw [List.append_assoc, ← ec]; exact ht
  · have c0 : (bif decide ((X.length : Int) > (0 : Int)) then true else decide ((Y.length : Int) > (0 : Int))) = false := by
      rw [decide_eq_false (show ¬ (X.length : Int) > 0 by omega), decide_eq_false (show ¬ (Y.length : Int) > 0 by omega)]; rfl
    have e1 : X = [] := List.length_eq_zero_iff.1 (by omega)
    have e2 : Y = [] := List.length_eq_zero_iff.1 (by omega)
    rw [e1, e2, combG_nil, List.append_nil] at ht
    exact ⟨.inr (0, (Y, X, res)), by simp only [cmi_step, Tr.val, c0, cond_false], rfl, ht⟩
set_option maxRecDepth 100000 in
theorem cmic_tree (A : (Ty.list (.prod (.int .i64) (.list (.prod (.int .i64) (.int .i64))))).den) (B : (Ty.list (.prod (.int .i64) (.list (.prod (.int .i64) (.int .i64))))).den) : evalF Try.prog rgD_S54 (opens []) rgD_L55 9 74 [.ag [.d false false (.prod (.int .i64) (.list (.prod (.int .i64) (.int .i64)))) A], .ag [.d false false (.prod (.int .i64) (.list (.prod (.int .i64) (.int .i64)))) B]] = .br ((((szG A) && (bif !valGB A then true else ((szG B) && (bif !valGB B then true else ((cmi_cond () (B, A, [])) && (Nat.beq (Prod.fst (cmi_g () (B, A, []))) (0 : Nat))))))))) (.ret (.ag [.d false false (.prod (.int .i64) (.list (.prod (.int .i64) (.int .i64)))) (bif !valGB A then [] else bif !valGB B then [] else Prod.snd (Prod.snd (Prod.snd (cmi_g () (B, A, [])))))])) (.bad 116) := by kernel_rfl
theorem cmic_val (A : (Ty.list (.prod (.int .i64) (.list (.prod (.int .i64) (.int .i64))))).den) (B : (Ty.list (.prod (.int .i64) (.list (.prod (.int .i64) (.int .i64))))).den) (hc : (szG A && szG B) = true) : (.br ((((szG A) && (bif !valGB A then true else ((szG B) && (bif !valGB B then true else ((cmi_cond () (B, A, [])) && (Nat.beq (Prod.fst (cmi_g () (B, A, []))) (0 : Nat))))))))) (.ret (.ag [.d false false (.prod (.int .i64) (.list (.prod (.int .i64) (.int .i64)))) (bif !valGB A then [] else bif !valGB B then [] else Prod.snd (Prod.snd (Prod.snd (cmi_g () (B, A, [])))))])) (.bad 116) : Tr AV).val = some (.ag [.d false false (.prod (.int .i64) (.list (.prod (.int .i64) (.int .i64)))) (opR 1 A B)]) := by
  obtain ⟨K, rfl⟩ : ∃ K : Rg, K = A := ⟨A, rfl⟩
  obtain ⟨M, rfl⟩ : ∃ K : Rg, K = B := ⟨B, rfl⟩
  rw [Bool.and_eq_true] at hc
  have hs : szG K = true := hc.1
  have hs2 : szG M = true := hc.2
  unfold opR
  show cond _ _ _ = _
  cases hv : valGB K
  · simp only [hs, Bool.not_false, Bool.and_self, Bool.false_and, cond_true, cond_false, Tr.val]
  · cases hw : valGB M
    · simp only [hs, hs2, Bool.not_false, Bool.not_true, Bool.and_self, Bool.and_false, cond_true, cond_false, Tr.val]
    · obtain ⟨v1, v2, v3⟩ := cmi_run (valGB_iff.1 hv) (valGB_iff.1 hw)
      simp only [hs, hs2, v1, v2, v3, Nat.beq, Bool.not_true, Bool.and_self, cond_true, cond_false, Tr.val]
noncomputable def cmic_g : List AV → Option (Tr AV)
  | [.ag [.d _ _ (.prod (.int .i64) (.list (.prod (.int .i64) (.int .i64)))) A], .ag [.d _ _ (.prod (.int .i64) (.list (.prod (.int .i64) (.int .i64)))) B]] => some (.br (szG A && szG B) (.ret (.ag [.d false false (.prod (.int .i64) (.list (.prod (.int .i64) (.int .i64)))) (opR 1 A B)])) (.bad 900))
  | _ => none
set_option maxHeartbeats 4000000 in
theorem cmic_ok : FunOK Try.prog 74 cmic_g := by
  refine fun_ok (by kernel_rfl) (rgD_S54_ok) (rgD_L55_ok) 9 (On := (opens [])) (fun args t h => ?_)
  unfold cmic_g at h
  split at h
  · rename_i _ _ A _ _ B
    simp only [Option.some.injEq] at h
    subst h
    refine ⟨[.ag [.d false false (.prod (.int .i64) (.list (.prod (.int .i64) (.int .i64)))) A], .ag [.d false false (.prod (.int .i64) (.list (.prod (.int .i64) (.int .i64)))) B]], rfl, fun fr w us h => h, fun r hr => ?_⟩
    obtain ⟨hc, hr⟩ := br_bad hr
    simp only [Tr.val, Option.some.injEq] at hr
    subst hr
    rw [cmic_tree]
    exact cmic_val A B hc
  · cases h
noncomputable def rgD_S56 : Sums := addS 74 cmic_g rgD_S54
theorem rgD_S56_ok : SumOK Try.prog rgD_S56 := addS_ok (cmic_ok) (rgD_S54_ok)
noncomputable def cmd_St (u : cmu_U) (v : cmu_V) : Stt := ⟨[.one .junk, .one .junk, .one (.fn 93 []), .one (.p 0 0), .one (.p 1 0), .one .junk, .one (.p 2 0), .one (.p 3 0), .one .junk, .one .junk, .one .junk, .one .junk, .one .junk, .one .junk, .one .junk, .one .junk, .one .junk, .one .junk, .one .junk, .one .junk, .one .junk, .one .junk, .one .junk, .one .junk, .one .junk, .one .junk, .one .junk, .one .junk, .one .junk, .one .junk, .one .junk, .one .junk, .one .junk, .one .junk, .one .junk, .one .junk, .one .junk, .one .junk, .one .junk, .one .junk, .one .junk, .one .junk, .one .junk, .one .junk, .one .junk, .one .junk, .one .junk, .one .junk, .one .junk, .one .junk, .one .junk, .one .junk, .one .junk, .one .junk, .one .junk, .one .junk, .one .junk, .one .junk, .one .junk, .one .junk, .one .junk, .one .junk, .one .junk, .one .junk, .one .junk, .one .junk], [(3, .cells [.s false 980 0 (none)]), (2, .cells [.v false (Value.slice none (0 : Nat) (0 : Nat))]), (1, .cells [.d false false (.prod (.int .i64) (.list (.prod (.int .i64) (.int .i64)))) v.1]), (0, .cells [.d false false (.prod (.int .i64) (.list (.prod (.int .i64) (.int .i64)))) v.2.1]), (980, .row true false false 56 (.prod (.int .i64) (.list (.prod (.int .i64) (.int .i64)))) v.2.2)], 1012⟩
noncomputable def cmd_step (u : cmu_U) (v : cmu_V) : Tr (cmu_V ⊕ (Nat × cmu_V)) :=
  match u, v with
  | _, (q0, q1, q2) => .br (bif decide ((↑(List.length q1) : Int) > (0 : Int)) then true else decide ((↑(List.length q0) : Int) > (0 : Int))) (.br (decide ((0 : Nat) < List.length q1) || decide ((0 : Nat) < List.length q0)) (.br ((decide (List.length (Prod.fst (spl q1 (lowG q1 q0))) ≤ (10000 : Nat)) && decide (List.length (Prod.fst (spl q0 (lowG q1 q0))) ≤ (10000 : Nat)))) (.br (decide ((↑(List.length (chL (Prod.fst (spl q1 (lowG q1 q0))) (Prod.fst (spl q0 (lowG q1 q0))) (0 : Int))) : Int) > (0 : Int))) (.br (decide ((List.length q2 + (1 : Nat)) * (32 : Nat) ≤ maxNew) && decide (List.length q2 + (1 : Nat) ≤ maxLen)) (.ret (.inl (Prod.snd (spl q0 (lowG q1 q0)), Prod.snd (spl q1 (lowG q1 q0)), q2 ++ [(lowG q1 q0, chL (Prod.fst (spl q1 (lowG q1 q0))) (Prod.fst (spl q0 (lowG q1 q0))) (0 : Int))]))) (.bad 71)) (.ret (.inl (Prod.snd (spl q0 (lowG q1 q0)), Prod.snd (spl q1 (lowG q1 q0)), q2)))) (.bad 116)) (.bad 900)) (.ret (.inr (0, (q0, q1, q2))))
set_option maxRecDepth 100000 in
set_option maxHeartbeats 4000000 in
theorem cmd_step_eq : ∀ (u : cmu_U) (v : cmu_V), (evalC Try.prog (evalB Try.prog rgD_S56 (opens []) rgD_L55 7).1 (evalB Try.prog rgD_S56 (opens []) rgD_L55 7).2 (opens []) (rgD_L55 92) 100000 (0 :: [0, 0, 1, 1, 1]) (loopOf (bodyOf Try.prog 92) [1, 1, 1, 0, 0]) (cmd_St u v) []).bind (finF [0, 1, 5, 8, 9, 10, 11, 12, 13, 14, 15, 16, 17, 18, 19, 20, 21, 22, 23, 24, 25, 26, 27, 28, 29, 30, 31, 32, 33, 34, 35, 36, 37, 38, 39, 40, 41, 42, 43, 44, 45, 46, 47, 48, 49, 50, 51, 52, 53, 54, 55, 56, 57, 58, 59, 60, 61, 62, 63, 64, 65] [⟨980, none, 3, 0, 56, (.prod (.int .i64) (.list (.prod (.int .i64) (.int .i64))))⟩] [3, 2, 1, 0, 980] [1062] 1012) = (cmd_step u v).bind (outA (cmd_St u) [.exit 0]) := by
  rintro _ ⟨q0, q1, q2⟩
  kernel_rfl
noncomputable def cmd_rd (b : Bool) (o2 : Option AV) (o3 : Option AV) (o4 : Option AV) (o6 : Option AV) (o7 : Option AV) (own : Own) : Option (cmu_U × cmu_V) := zrT b <| zrO o2 fun za1 => zrA1 za1 fun zc2 => zrF 93 [] zc2 <| zrO o3 fun za3 => zrA1 za3 fun zc4 => zrP 0 0 zc4 <| zrO o4 fun za5 => zrA1 za5 fun zc6 => zrP 1 0 zc6 <| zrO o6 fun za7 => zrA1 za7 fun zc8 => zrP 2 0 zc8 <| zrO o7 fun za9 => zrA1 za9 fun zc10 => zrP 3 0 zc10 <| zrL own fun zq11 zw12 => zrKey 3 zq11 fun zk13 => zrC zk13 fun zl14 => zrL zl14 fun zc15 zr16 => zrSl 980 0 (none) zc15 <| zrN zr16 <| zrL zw12 fun zq17 zw18 => zrKey 2 zq17 fun zk19 => zrC zk19 fun zl20 => zrL zl20 fun zc21 zr22 => zrNil zc21 <| zrN zr22 <| zrL zw18 fun zq23 zw24 => zrKey 1 zq23 fun zk25 => zrC zk25 fun zl26 => zrL zl26 fun zc27 zr28 => zrD (.prod (.int .i64) (.list (.prod (.int .i64) (.int .i64)))) zc27 fun q0 => zrN zr28 <| zrL zw24 fun zq29 zw30 => zrKey 0 zq29 fun zk31 => zrC zk31 fun zl32 => zrL zl32 fun zc33 zr34 => zrD (.prod (.int .i64) (.list (.prod (.int .i64) (.int .i64)))) zc33 fun q1 => zrN zr34 <| zrL zw30 fun zq35 zw36 => zrKey 980 zq35 fun zk37 => zrR true 56 (.prod (.int .i64) (.list (.prod (.int .i64) (.int .i64)))) zk37 fun q2 => zrN zw36 <| some ((), (q0, q1, q2))
noncomputable def cmd_read (st : Stt) : Option (cmu_U × cmu_V) := cmd_rd (cmu_cok st && (staysA [⟨980, none, 3, 0, 56, (.prod (.int .i64) (.list (.prod (.int .i64) (.int .i64))))⟩] [3, 2, 1, 0, 980] st.own && juAll [0, 1, 5, 8, 9, 10, 11, 12, 13, 14, 15, 16, 17, 18, 19, 20, 21, 22, 23, 24, 25, 26, 27, 28, 29, 30, 31, 32, 33, 34, 35, 36, 37, 38, 39, 40, 41, 42, 43, 44, 45, 46, 47, 48, 49, 50, 51, 52, 53, 54, 55, 56, 57, 58, 59, 60, 61, 62, 63, 64, 65] (cmu_can st).tm 66)) (cmu_can st).tm[2]? (cmu_can st).tm[3]? (cmu_can st).tm[4]? (cmu_can st).tm[6]? (cmu_can st).tm[7]? (cmu_can st).own
set_option maxRecDepth 100000 in
set_option maxHeartbeats 4000000 in
theorem cmd_rd_ok {b : Bool} {tm : List AV} {own : Own} {u : cmu_U} {v : cmu_V} (hj : b = true → juAll [0, 1, 5, 8, 9, 10, 11, 12, 13, 14, 15, 16, 17, 18, 19, 20, 21, 22, 23, 24, 25, 26, 27, 28, 29, 30, 31, 32, 33, 34, 35, 36, 37, 38, 39, 40, 41, 42, 43, 44, 45, 46, 47, 48, 49, 50, 51, 52, 53, 54, 55, 56, 57, 58, 59, 60, 61, 62, 63, 64, 65] tm 66 = true) (h : cmd_rd b tm[2]? tm[3]? tm[4]? tm[6]? tm[7]? own = some (u, v)) : b = true ∧ tm = (cmd_St u v).tm ∧ own = (cmd_St u v).own := by
  unfold cmd_rd at h
  obtain ⟨rfl, h0⟩ := zrT_some h
  obtain ⟨za1, e2, h1⟩ := zrO_some h0
  obtain ⟨zc2, rfl, h2⟩ := zrA1_some h1
  obtain ⟨rfl, h3⟩ := zrF_some h2
  obtain ⟨za3, e3, h4⟩ := zrO_some h3
  obtain ⟨zc4, rfl, h5⟩ := zrA1_some h4
  obtain ⟨rfl, h6⟩ := zrP_some h5
  obtain ⟨za5, e4, h7⟩ := zrO_some h6
  obtain ⟨zc6, rfl, h8⟩ := zrA1_some h7
  obtain ⟨rfl, h9⟩ := zrP_some h8
  obtain ⟨za7, e6, h10⟩ := zrO_some h9
  obtain ⟨zc8, rfl, h11⟩ := zrA1_some h10
  obtain ⟨rfl, h12⟩ := zrP_some h11
  obtain ⟨za9, e7, h13⟩ := zrO_some h12
  obtain ⟨zc10, rfl, h14⟩ := zrA1_some h13
  obtain ⟨rfl, h15⟩ := zrP_some h14
  obtain ⟨zq11, zw12, rfl, h16⟩ := zrL_some h15
  obtain ⟨zk13, rfl, h17⟩ := zrKey_some h16
  obtain ⟨zl14, rfl, h18⟩ := zrC_some h17
  obtain ⟨zc15, zr16, rfl, h19⟩ := zrL_some h18
  obtain ⟨rfl, h20⟩ := zrSl_some h19
  obtain ⟨rfl, h21⟩ := zrN_some h20
  obtain ⟨zq17, zw18, rfl, h22⟩ := zrL_some h21
  obtain ⟨zk19, rfl, h23⟩ := zrKey_some h22
  obtain ⟨zl20, rfl, h24⟩ := zrC_some h23
  obtain ⟨zc21, zr22, rfl, h25⟩ := zrL_some h24
  obtain ⟨rfl, h26⟩ := zrNil_some h25
  obtain ⟨rfl, h27⟩ := zrN_some h26
  obtain ⟨zq23, zw24, rfl, h28⟩ := zrL_some h27
  obtain ⟨zk25, rfl, h29⟩ := zrKey_some h28
  obtain ⟨zl26, rfl, h30⟩ := zrC_some h29
  obtain ⟨zc27, zr28, rfl, h31⟩ := zrL_some h30
  obtain ⟨q0, rfl, h32⟩ := zrD_some h31
  obtain ⟨rfl, h33⟩ := zrN_some h32
  obtain ⟨zq29, zw30, rfl, h34⟩ := zrL_some h33
  obtain ⟨zk31, rfl, h35⟩ := zrKey_some h34
  obtain ⟨zl32, rfl, h36⟩ := zrC_some h35
  obtain ⟨zc33, zr34, rfl, h37⟩ := zrL_some h36
  obtain ⟨q1, rfl, h38⟩ := zrD_some h37
  obtain ⟨rfl, h39⟩ := zrN_some h38
  obtain ⟨zq35, zw36, rfl, h40⟩ := zrL_some h39
  obtain ⟨zk37, rfl, h41⟩ := zrKey_some h40
  obtain ⟨q2, rfl, h42⟩ := zrR_some h41
  obtain ⟨rfl, h43⟩ := zrN_some h42
  have h := Option.some.inj h43
  have hu := congrArg Prod.fst h
  have hv := congrArg Prod.snd h
  dsimp only at hu hv
  subst hu
  subst hv
  exact ⟨rfl, (tm_fill (hj rfl) (Lv := [(2, .one (.fn 93 [])), (3, .one (.p 0 0)), (4, .one (.p 1 0)), (6, .one (.p 2 0)), (7, .one (.p 3 0))]) (by kernel_rfl) ⟨e2, e3, e4, e6, e7, trivial⟩).trans (by kernel_rfl), rfl⟩
theorem cmd_read_ok (st : Stt) (u : cmu_U) (v : cmu_V) (h : cmd_read st = some (u, v)) : cmu_cok st = true ∧ staysA [⟨980, none, 3, 0, 56, (.prod (.int .i64) (.list (.prod (.int .i64) (.int .i64))))⟩] [3, 2, 1, 0, 980] st.own = true ∧ cmu_can st = cmd_St u v := by
  obtain ⟨h1, h2, h3⟩ := cmd_rd_ok (fun hb => by rw [Bool.and_eq_true, Bool.and_eq_true] at hb; exact hb.2.2) h
  rw [Bool.and_eq_true, Bool.and_eq_true] at h1
  refine ⟨h1.1, h1.2.1, ?_⟩
  have e : cmu_can st = ⟨(cmu_can st).tm, (cmu_can st).own, 1012⟩ := by kernel_rfl
  rw [e, h2, h3]
  rfl
noncomputable def cmd_cond (u : cmu_U) (v : cmu_V) : Bool := runC (cmd_step u) v
noncomputable def cmd_g (u : cmu_U) (v : cmu_V) : Nat × cmu_V := runG (cmd_step u) v
theorem cmd_hg : ∀ (u : cmu_U) (v : cmu_V), cmd_cond u v = true → loopN (cmd_step u) ((fun u v => runF (cmd_step u) v) u v) v = some (cmd_g u v) := by
  exact fun u v h => run_hg h
noncomputable def cmd_m (st : Stt) : Option (Tr (Ex × Stt)) := sumM cmd_read cmd_cond cmd_St cmd_g [(0, .exit 0)] st
noncomputable def rgD_L57 : FuncId → Loops := addL 92 [0, 0, 1, 1, 1] cmd_m rgD_L55
set_option maxRecDepth 100000 in
set_option maxHeartbeats 4000000 in
theorem rgD_L57_ok : LoopsOK Try.prog rgD_L57 :=
  loop_sumF (body := (bodyOf Try.prog 92)) (c := (loopOf (bodyOf Try.prog 92) [1, 1, 1, 0, 0])) (kinds := [.exit 0]) (allow := [(0, .exit 0)]) (St := cmd_St) (step := cmd_step) (W := [0, 1, 5, 8, 9, 10, 11, 12, 13, 14, 15, 16, 17, 18, 19, 20, 21, 22, 23, 24, 25, 26, 27, 28, 29, 30, 31, 32, 33, 34, 35, 36, 37, 38, 39, 40, 41, 42, 43, 44, 45, 46, 47, 48, 49, 50, 51, 52, 53, 54, 55, 56, 57, 58, 59, 60, 61, 62, 63, 64, 65]) (As := [⟨980, none, 3, 0, 56, (.prod (.int .i64) (.list (.prod (.int .i64) (.int .i64))))⟩]) (ks := [3, 2, 1, 0, 980]) (dd := [1062]) (nx := 1012) (n := 100000) (g := cmd_g) (cond := cmd_cond) (fuel := (fun u v => runF (cmd_step u) v)) (read := cmd_read) (by kernel_rfl) (rgD_S56_ok) (rgD_L55_ok) 7 ⟨Try.f92, by kernel_rfl, by kernel_rfl⟩ (by kernel_rfl) (by kernel_rfl) (by kernel_rfl) cmd_step_eq cmd_hg cmd_read_ok
theorem cmd_run {A B : Rg} (ha : valG A) (hb : valG B) : cmd_cond () (B, A, []) = true ∧ (cmd_g () (B, A, [])).1 = 0 ∧ (cmd_g () (B, A, [])).2.2.2 = combG 0 (A.length + B.length) A B := by
  have la := ng_len ha (by omega)
  have lb := ng_len hb (by omega)
  refine run_val (step := cmd_step ()) (Inv := fun s => ∃ (X Y res : Rg) (n : Nat) (lo : Int), s = (Y, X, res) ∧ Ng lo X ∧ Ng lo Y ∧ X.length + Y.length ≤ n ∧ res.length + n ≤ 20000 ∧ res ++ combG 0 n X Y = combG 0 (A.length + B.length) A B) (μ := fun s => s.2.1.length + s.1.length) (Q := fun t => t.1 = 0 ∧ t.2.2.2 = combG 0 (A.length + B.length) A B) ?_ _ _ (Nat.lt_succ_self _) ⟨A, B, [], A.length + B.length, -4097, rfl, ha, hb, Nat.le_refl _, by simp only [List.length_nil]; omega, rfl⟩
  rintro s ⟨X, Y, res, n, lo, rfl, hx, hy, hn, hr, ht⟩
  by_cases g : 0 < X.length ∨ 0 < Y.length
  · obtain ⟨l1, l2, l3, l4, l5, l6⟩ := low_ok hx hy g
    obtain ⟨a1, a2, a3, a4, a5, a6⟩ := spl_ok hx l4
    obtain ⟨b1, b2, b3, b4, b5, b6⟩ := spl_ok hy l5
    have n0 : 0 < n := by omega
    obtain ⟨n, rfl⟩ : ∃ k, n = k + 1 := ⟨n - 1, by omega⟩
    have gd : (decide (0 < X.length) || decide (0 < Y.length)) = true := by rw [Bool.or_eq_true, decide_eq_true_eq, decide_eq_true_eq]; exact g
    have c0 : (bif decide ((X.length : Int) > (0 : Int)) then true else decide ((Y.length : Int) > (0 : Int))) = true := by
      by_cases h : 0 < X.length
      · rw [decide_eq_true (show (X.length : Int) > 0 by omega)]; rfl
      · rw [decide_eq_true (show (Y.length : Int) > 0 by omega)]; cases decide ((X.length : Int) > (0 : Int)) <;> rfl
    have sx : (spl X (lowG X Y)).1.length ≤ 10000 := by have := nr_len (nr_range a4 a5).1; have := (nr_range a4 a5).2; omega
    have sy : (spl Y (lowG X Y)).1.length ≤ 10000 := by have := nr_len (nr_range b4 b5).1; have := (nr_range b4 b5).2; omega
    have ec : combG 0 (n + 1) X Y = emit (lowG X Y) (chL (spl X (lowG X Y)).1 (spl Y (lowG X Y)).1 0) ++ combG 0 n (spl X (lowG X Y)).2 (spl Y (lowG X Y)).2 := by
      show (bif (decide (0 < X.length) || decide (0 < Y.length)) then _ else _) = _
      rw [gd]; rfl
    obtain ⟨r1, r2⟩ := room32 (n := res.length + 1) (by omega)
    refine ⟨.inl ((spl Y (lowG X Y)).2, (spl X (lowG X Y)).2, res ++ emit (lowG X Y) (chL (spl X (lowG X Y)).1 (spl Y (lowG X Y)).1 0)), ?_, ⟨_, _, _, n, _, rfl, a1, b1, by omega, ?_, ?_⟩, by show (spl X (lowG X Y)).2.length + (spl Y (lowG X Y)).2.length < X.length + Y.length; omega⟩
    · simp only [cmd_step, Tr.val, c0, gd, decide_eq_true sx, decide_eq_true sy, r1, r2, Bool.and_self, cond_true]
      unfold emit
      by_cases h0 : 0 < (chL (spl X (lowG X Y)).1 (spl Y (lowG X Y)).1 0).length
      · have d : decide (((chL (spl X (lowG X Y)).1 (spl Y (lowG X Y)).1 0).length : Int) > (0 : Int)) = true := decide_eq_true (by omega)
        simp only [d, decide_eq_true h0, cond_true]
      · have d : decide (((chL (spl X (lowG X Y)).1 (spl Y (lowG X Y)).1 0).length : Int) > (0 : Int)) = false := decide_eq_false (by omega)
        simp only [d, decide_eq_false h0, cond_false, List.append_nil]
    · have : (emit (lowG X Y) (chL (spl X (lowG X Y)).1 (spl Y (lowG X Y)).1 0)).length ≤ 1 := by unfold emit; cases decide (0 < (chL (spl X (lowG X Y)).1 (spl Y (lowG X Y)).1 0).length) <;> simp
      rw [List.length_append]; omega
    · rw [List.append_assoc, ← ec]; exact ht
  · have c0 : (bif decide ((X.length : Int) > (0 : Int)) then true else decide ((Y.length : Int) > (0 : Int))) = false := by
      rw [decide_eq_false (show ¬ (X.length : Int) > 0 by omega), decide_eq_false (show ¬ (Y.length : Int) > 0 by omega)]; rfl
    have e1 : X = [] := List.length_eq_zero_iff.1 (by omega)
    have e2 : Y = [] := List.length_eq_zero_iff.1 (by omega)
    rw [e1, e2, combG_nil, List.append_nil] at ht
    exact ⟨.inr (0, (Y, X, res)), by simp only [cmd_step, Tr.val, c0, cond_false], rfl, ht⟩
set_option maxRecDepth 100000 in
theorem cmdc_tree (A : (Ty.list (.prod (.int .i64) (.list (.prod (.int .i64) (.int .i64))))).den) (B : (Ty.list (.prod (.int .i64) (.list (.prod (.int .i64) (.int .i64))))).den) : evalF Try.prog rgD_S56 (opens []) rgD_L57 9 57 [.ag [.d false false (.prod (.int .i64) (.list (.prod (.int .i64) (.int .i64)))) A], .ag [.d false false (.prod (.int .i64) (.list (.prod (.int .i64) (.int .i64)))) B]] = .br ((((szG A) && (bif !valGB A then true else ((szG B) && (bif !valGB B then true else ((cmd_cond () (B, A, [])) && (Nat.beq (Prod.fst (cmd_g () (B, A, []))) (0 : Nat))))))))) (.ret (.ag [.d false false (.prod (.int .i64) (.list (.prod (.int .i64) (.int .i64)))) (bif !valGB A then [] else bif !valGB B then [] else Prod.snd (Prod.snd (Prod.snd (cmd_g () (B, A, [])))))])) (.bad 116) := by kernel_rfl
theorem cmdc_val (A : (Ty.list (.prod (.int .i64) (.list (.prod (.int .i64) (.int .i64))))).den) (B : (Ty.list (.prod (.int .i64) (.list (.prod (.int .i64) (.int .i64))))).den) (hc : (szG A && szG B) = true) : (.br ((((szG A) && (bif !valGB A then true else ((szG B) && (bif !valGB B then true else ((cmd_cond () (B, A, [])) && (Nat.beq (Prod.fst (cmd_g () (B, A, []))) (0 : Nat))))))))) (.ret (.ag [.d false false (.prod (.int .i64) (.list (.prod (.int .i64) (.int .i64)))) (bif !valGB A then [] else bif !valGB B then [] else Prod.snd (Prod.snd (Prod.snd (cmd_g () (B, A, [])))))])) (.bad 116) : Tr AV).val = some (.ag [.d false false (.prod (.int .i64) (.list (.prod (.int .i64) (.int .i64)))) (opR 0 A B)]) := by
  obtain ⟨K, rfl⟩ : ∃ K : Rg, K = A := ⟨A, rfl⟩
  obtain ⟨M, rfl⟩ : ∃ K : Rg, K = B := ⟨B, rfl⟩
  rw [Bool.and_eq_true] at hc
  have hs : szG K = true := hc.1
  have hs2 : szG M = true := hc.2
  unfold opR
  show cond _ _ _ = _
  cases hv : valGB K
  · simp only [hs, Bool.not_false, Bool.and_self, Bool.false_and, cond_true, cond_false, Tr.val]
  · cases hw : valGB M
    · simp only [hs, hs2, Bool.not_false, Bool.not_true, Bool.and_self, Bool.and_false, cond_true, cond_false, Tr.val]
    · obtain ⟨v1, v2, v3⟩ := cmd_run (valGB_iff.1 hv) (valGB_iff.1 hw)
      simp only [hs, hs2, v1, v2, v3, Nat.beq, Bool.not_true, Bool.and_self, cond_true, cond_false, Tr.val]
noncomputable def cmdc_g : List AV → Option (Tr AV)
  | [.ag [.d _ _ (.prod (.int .i64) (.list (.prod (.int .i64) (.int .i64)))) A], .ag [.d _ _ (.prod (.int .i64) (.list (.prod (.int .i64) (.int .i64)))) B]] => some (.br (szG A && szG B) (.ret (.ag [.d false false (.prod (.int .i64) (.list (.prod (.int .i64) (.int .i64)))) (opR 0 A B)])) (.bad 900))
  | _ => none
set_option maxHeartbeats 4000000 in
theorem cmdc_ok : FunOK Try.prog 57 cmdc_g := by
  refine fun_ok (by kernel_rfl) (rgD_S56_ok) (rgD_L57_ok) 9 (On := (opens [])) (fun args t h => ?_)
  unfold cmdc_g at h
  split at h
  · rename_i _ _ A _ _ B
    simp only [Option.some.injEq] at h
    subst h
    refine ⟨[.ag [.d false false (.prod (.int .i64) (.list (.prod (.int .i64) (.int .i64)))) A], .ag [.d false false (.prod (.int .i64) (.list (.prod (.int .i64) (.int .i64)))) B]], rfl, fun fr w us h => h, fun r hr => ?_⟩
    obtain ⟨hc, hr⟩ := br_bad hr
    simp only [Tr.val, Option.some.injEq] at hr
    subst hr
    rw [cmdc_tree]
    exact cmdc_val A B hc
  · cases h
noncomputable def rgD_S58 : Sums := addS 57 cmdc_g rgD_S56
theorem rgD_S58_ok : SumOK Try.prog rgD_S58 := addS_ok (cmdc_ok) (rgD_S56_ok)
end Go.Proofs.Ytacgchandefjgaa
