/-
  Layer 43: machines, counts, least.
-/
import Derived.Test.YtnmjikaojoaaaaaProg
import Derived.Test.YtnmjikaojoaaaaaFvX
import Derived.Test.YtnmjikaojoaaaaaFvZ
import Derived.Test.YtnmjikaojoaaaaaAut
import Derived.Test.YtnmjikaojoaaaaaMdv
namespace Go.Proofs.Ytnmjikaojoaaaaa
open Go
set_option maxRecDepth 100000 in
theorem aw16_tree : evalF Try.prog S0 (opens []) L0 9 16 [] = .ret (.one (.v true (.bool true))) := by kernel_rfl
def lmA_S2 : Sums := addS 16 gTrue S0
theorem lmA_S2_ok : SumOK Try.prog lmA_S2 := addS_ok (gTrue_ok (by kernel_rfl) (S0_ok _) (L0_ok _) aw16_tree) (S0_ok _)
def mx (x y : Int) : Int := if y > x then y else x
def dval (a b c d : Int) : Bool := decide (-16777216 ≤ a) && (decide (a ≤ 16777216) && (decide (-16777216 ≤ b) && (decide (b ≤ 16777216) && (decide (-16777216 ≤ c) && (decide (c ≤ 16777216) && (decide (-16777216 ≤ d) && (decide (d ≤ 16777216) && !(a == 0 && (b == 0 && (c == 0 && d == 0))))))))))
def dom (c0 c1 c2 c3 : Int) : Int := if dval c0 c1 c2 c3 = true then mx (mx (mx (mx (mx (mx (mx (mx 0 c0) (0 - c0)) c1) (0 - c1)) c2) (0 - c2)) c3) (0 - c3) else 0
theorem mx_assoc (a b c : Int) : mx a (mx b c) = mx (mx a b) c := by
  unfold mx; repeat' split
  all_goals omega
theorem mx_le {a b k : Int} (h : a ≤ k) (g : b ≤ k) : mx a b ≤ k := by unfold mx; split <;> omega
theorem le_mx (a b : Int) : a ≤ mx a b ∧ b ≤ mx a b := by unfold mx; split <;> omega
theorem mx_or (a b : Int) : mx a b = a ∨ mx a b = b := by unfold mx; split <;> simp
theorem dv_iff {a b c d : Int} : dval a b c d = true ↔ (-16777216 ≤ a ∧ a ≤ 16777216) ∧ (-16777216 ≤ b ∧ b ≤ 16777216) ∧ (-16777216 ≤ c ∧ c ≤ 16777216) ∧ (-16777216 ≤ d ∧ d ≤ 16777216) ∧ ¬ (a = 0 ∧ b = 0 ∧ c = 0 ∧ d = 0) := by
  unfold dval
  constructor <;> intro h <;> simp at h ⊢ <;> omega
theorem dom_spec {a b c d : Int} (h : dval a b c d = true) : (a ≤ dom a b c d ∧ -a ≤ dom a b c d ∧ b ≤ dom a b c d ∧ -b ≤ dom a b c d ∧ c ≤ dom a b c d ∧ -c ≤ dom a b c d ∧ d ≤ dom a b c d ∧ -d ≤ dom a b c d) ∧ (dom a b c d = a ∨ dom a b c d = -a ∨ dom a b c d = b ∨ dom a b c d = -b ∨ dom a b c d = c ∨ dom a b c d = -c ∨ dom a b c d = d ∨ dom a b c d = -d) := by
  have hv := dv_iff.1 h
  unfold dom
  rw [if_pos h]
  have a1 := le_mx 0 a
  have o1 := mx_or 0 a
  generalize mx 0 a = x1 at *
  have a2 := le_mx x1 (0 - a)
  have o2 := mx_or x1 (0 - a)
  generalize mx x1 (0 - a) = x2 at *
  have a3 := le_mx x2 b
  have o3 := mx_or x2 b
  generalize mx x2 b = x3 at *
  have a4 := le_mx x3 (0 - b)
  have o4 := mx_or x3 (0 - b)
  generalize mx x3 (0 - b) = x4 at *
  have a5 := le_mx x4 c
  have o5 := mx_or x4 c
  generalize mx x4 c = x5 at *
  have a6 := le_mx x5 (0 - c)
  have o6 := mx_or x5 (0 - c)
  generalize mx x5 (0 - c) = x6 at *
  have a7 := le_mx x6 d
  have o7 := mx_or x6 d
  generalize mx x6 d = x7 at *
  have a8 := le_mx x7 (0 - d)
  have o8 := mx_or x7 (0 - d)
  generalize mx x7 (0 - d) = x8 at *
  refine ⟨by omega, ?_⟩
  have e1 : x2 = a ∨ x2 = -a := by omega
  have e2 : x4 = a ∨ x4 = -a ∨ x4 = b ∨ x4 = -b := by omega
  have e3 : x6 = a ∨ x6 = -a ∨ x6 = b ∨ x6 = -b ∨ x6 = c ∨ x6 = -c := by omega
  omega
theorem dom_in (a b c d : Int) : 0 ≤ dom a b c d ∧ dom a b c d ≤ 16777216 ∧ (dval a b c d = true → 1 ≤ dom a b c d) := by
  cases h : dval a b c d
  · have : dom a b c d = 0 := by unfold dom; rw [if_neg (by simp [h])]
    rw [this]; simp
  · have := dom_spec h
    have hv := dv_iff.1 h
    refine ⟨by omega, by omega, fun _ => by omega⟩
theorem neg_w {c : Int} (h : -16777216 ≤ c ∧ c ≤ 16777216) : IntKind.wrap IntKind.i64 ((0 : Int) - c) = 0 - c := IntWalk.i64_in _ (by omega)
set_option maxRecDepth 100000 in
theorem dv_tree (a : Int) (b : Int) (c : Int) (d : Int) : evalF Try.prog lmA_S2 (opens []) L0 9 40 [.ag [.v false (.int .i64 a), .v false (.int .i64 b), .v false (.int .i64 c), .v false (.int .i64 d)]] = .ret (.one (.v false (.bool (bif bif decide (a < (-16777216 : Int)) then true else decide (a > (16777216 : Int)) then false else bif bif decide (b < (-16777216 : Int)) then true else decide (b > (16777216 : Int)) then false else bif bif decide (c < (-16777216 : Int)) then true else decide (c > (16777216 : Int)) then false else bif bif decide (d < (-16777216 : Int)) then true else decide (d > (16777216 : Int)) then false else match false with | true => a == (0 : Int) && (b == (0 : Int) && (c == (0 : Int) && (d == (0 : Int) && true))) | false => !(a == (0 : Int) && (b == (0 : Int) && (c == (0 : Int) && (d == (0 : Int) && true)))))))) := by kernel_rfl
set_option maxHeartbeats 4000000 in
theorem dv_val (a : Int) (b : Int) (c : Int) (d : Int) : (.ret (.one (.v false (.bool (bif bif decide (a < (-16777216 : Int)) then true else decide (a > (16777216 : Int)) then false else bif bif decide (b < (-16777216 : Int)) then true else decide (b > (16777216 : Int)) then false else bif bif decide (c < (-16777216 : Int)) then true else decide (c > (16777216 : Int)) then false else bif bif decide (d < (-16777216 : Int)) then true else decide (d > (16777216 : Int)) then false else match false with | true => a == (0 : Int) && (b == (0 : Int) && (c == (0 : Int) && (d == (0 : Int) && true))) | false => !(a == (0 : Int) && (b == (0 : Int) && (c == (0 : Int) && (d == (0 : Int) && true)))))))) : Tr AV).val = some (.one (.v false (.bool (dval a b c d)))) := by
  refine congrArg (fun b => some (AV.one (.v false (.bool b)))) ?_
  rw [Bool.eq_iff_iff]
  simp only [Bool.cond_eq_ite]
  unfold dval
  constructor <;> intro h <;> simp at h ⊢ <;> omega
def dv_g : List AV → Option (Tr AV)
  | [.ag [.v _ (.int .i64 a), .v _ (.int .i64 b), .v _ (.int .i64 c), .v _ (.int .i64 d)]] => some (.ret (.one (.v false (.bool (dval a b c d)))))
  | _ => none
theorem dv_ok : FunOK Try.prog 40 dv_g := by
  refine fun_ok (by kernel_rfl) (lmA_S2_ok) (L0_ok _) 9 (On := (opens [])) (fun args t h => ?_)
  unfold dv_g at h
  split at h
  · rename_i _ a _ b _ c _ d
    simp only [Option.some.injEq] at h
    subst h
    refine ⟨[.ag [.v false (.int .i64 a), .v false (.int .i64 b), .v false (.int .i64 c), .v false (.int .i64 d)]], rfl, fun fr w us h => h, fun r hr => ?_⟩
    simp only [Tr.val, Option.some.injEq] at hr
    subst hr
    rw [dv_tree]
    exact dv_val a b c d
  · cases h
def lmA_S3 : Sums := addS 40 dv_g lmA_S2
theorem lmA_S3_ok : SumOK Try.prog lmA_S3 := addS_ok (dv_ok) (lmA_S2_ok)
set_option maxRecDepth 100000 in
theorem rdv_tree (a : Int) (b : Int) (c : Int) (d : Int) : evalF Try.prog lmA_S3 (opens []) L0 9 45 [.ag [.v false (.int .i64 a), .v false (.int .i64 b), .v false (.int .i64 c), .v false (.int .i64 d)]] = .ret (.one (.v false (.bool (bif bif decide (a < (-16777216 : Int)) then true else decide (a > (16777216 : Int)) then false else bif bif decide (b < (-16777216 : Int)) then true else decide (b > (16777216 : Int)) then false else bif bif decide (c < (-16777216 : Int)) then true else decide (c > (16777216 : Int)) then false else bif bif decide (d < (-16777216 : Int)) then true else decide (d > (16777216 : Int)) then false else bif bif bif a != (0 : Int) then true else b != (0 : Int) then true else c != (0 : Int) then true else d != (0 : Int))))) := by kernel_rfl
set_option maxHeartbeats 4000000 in
theorem rdv_val (a : Int) (b : Int) (c : Int) (d : Int) : (.ret (.one (.v false (.bool (bif bif decide (a < (-16777216 : Int)) then true else decide (a > (16777216 : Int)) then false else bif bif decide (b < (-16777216 : Int)) then true else decide (b > (16777216 : Int)) then false else bif bif decide (c < (-16777216 : Int)) then true else decide (c > (16777216 : Int)) then false else bif bif decide (d < (-16777216 : Int)) then true else decide (d > (16777216 : Int)) then false else bif bif bif a != (0 : Int) then true else b != (0 : Int) then true else c != (0 : Int) then true else d != (0 : Int))))) : Tr AV).val = some (.one (.v false (.bool (dval a b c d)))) := by
  refine congrArg (fun b => some (AV.one (.v false (.bool b)))) ?_
  rw [Bool.eq_iff_iff]
  simp only [Bool.cond_eq_ite]
  unfold dval
  constructor <;> intro h <;> simp at h ⊢ <;> omega
def rdv_g : List AV → Option (Tr AV)
  | [.ag [.v _ (.int .i64 a), .v _ (.int .i64 b), .v _ (.int .i64 c), .v _ (.int .i64 d)]] => some (.ret (.one (.v false (.bool (dval a b c d)))))
  | _ => none
theorem rdv_ok : FunOK Try.prog 45 rdv_g := by
  refine fun_ok (by kernel_rfl) (lmA_S3_ok) (L0_ok _) 9 (On := (opens [])) (fun args t h => ?_)
  unfold rdv_g at h
  split at h
  · rename_i _ a _ b _ c _ d
    simp only [Option.some.injEq] at h
    subst h
    refine ⟨[.ag [.v false (.int .i64 a), .v false (.int .i64 b), .v false (.int .i64 c), .v false (.int .i64 d)]], rfl, fun fr w us h => h, fun r hr => ?_⟩
    simp only [Tr.val, Option.some.injEq] at hr
    subst hr
    rw [rdv_tree]
    exact rdv_val a b c d
  · cases h
def lmA_S4 : Sums := addS 45 rdv_g lmA_S3
theorem lmA_S4_ok : SumOK Try.prog lmA_S4 := addS_ok (rdv_ok) (lmA_S3_ok)
set_option maxRecDepth 100000 in
theorem dm_tree (a : Int) (b : Int) (c : Int) (d : Int) : evalF Try.prog lmA_S4 (opens []) L0 9 41 [.ag [.v false (.int .i64 a), .v false (.int .i64 b), .v false (.int .i64 c), .v false (.int .i64 d)]] = .ret (.one (.v false (.int .i64 (bif !dval a b c d then (0 : Int) else if IntKind.wrap IntKind.i64 ((0 : Int) - d) > if d > if IntKind.wrap IntKind.i64 ((0 : Int) - c) > if c > if IntKind.wrap IntKind.i64 ((0 : Int) - b) > if b > if IntKind.wrap IntKind.i64 ((0 : Int) - a) > if a > (0 : Int) then a else (0 : Int) then IntKind.wrap IntKind.i64 ((0 : Int) - a) else if a > (0 : Int) then a else (0 : Int) then b else if IntKind.wrap IntKind.i64 ((0 : Int) - a) > if a > (0 : Int) then a else (0 : Int) then IntKind.wrap IntKind.i64 ((0 : Int) - a) else if a > (0 : Int) then a else (0 : Int) then IntKind.wrap IntKind.i64 ((0 : Int) - b) else if b > if IntKind.wrap IntKind.i64 ((0 : Int) - a) > if a > (0 : Int) then a else (0 : Int) then IntKind.wrap IntKind.i64 ((0 : Int) - a) else if a > (0 : Int) then a else (0 : Int) then b else if IntKind.wrap IntKind.i64 ((0 : Int) - a) > if a > (0 : Int) then a else (0 : Int) then IntKind.wrap IntKind.i64 ((0 : Int) - a) else if a > (0 : Int) then a else (0 : Int) then c else if IntKind.wrap IntKind.i64 ((0 : Int) - b) > if b > if IntKind.wrap IntKind.i64 ((0 : Int) - a) > if a > (0 : Int) then a else (0 : Int) then IntKind.wrap IntKind.i64 ((0 : Int) - a) else if a > (0 : Int) then a else (0 : Int) then b else if IntKind.wrap IntKind.i64 ((0 : Int) - a) > if a > (0 : Int) then a else (0 : Int) then IntKind.wrap IntKind.i64 ((0 : Int) - a) else if a > (0 : Int) then a else (0 : Int) then IntKind.wrap IntKind.i64 ((0 : Int) - b) else if b > if IntKind.wrap IntKind.i64 ((0 : Int) - a) > if a > (0 : Int) then a else (0 : Int) then IntKind.wrap IntKind.i64 ((0 : Int) - a) else if a > (0 : Int) then a else (0 : Int) then b else if IntKind.wrap IntKind.i64 ((0 : Int) - a) > if a > (0 : Int) then a else (0 : Int) then IntKind.wrap IntKind.i64 ((0 : Int) - a) else if a > (0 : Int) then a else (0 : Int) then IntKind.wrap IntKind.i64 ((0 : Int) - c) else if c > if IntKind.wrap IntKind.i64 ((0 : Int) - b) > if b > if IntKind.wrap IntKind.i64 ((0 : Int) - a) > if a > (0 : Int) then a else (0 : Int) then IntKind.wrap IntKind.i64 ((0 : Int) - a) else if a > (0 : Int) then a else (0 : Int) then b else if IntKind.wrap IntKind.i64 ((0 : Int) - a) > if a > (0 : Int) then a else (0 : Int) then IntKind.wrap IntKind.i64 ((0 : Int) - a) else if a > (0 : Int) then a else (0 : Int) then IntKind.wrap IntKind.i64 ((0 : Int) - b) else if b > if IntKind.wrap IntKind.i64 ((0 : Int) - a) > if a > (0 : Int) then a else (0 : Int) then IntKind.wrap IntKind.i64 ((0 : Int) - a) else if a > (0 : Int) then a else (0 : Int) then b else if IntKind.wrap IntKind.i64 ((0 : Int) - a) > if a > (0 : Int) then a else (0 : Int) then IntKind.wrap IntKind.i64 ((0 : Int) - a) else if a > (0 : Int) then a else (0 : Int) then c else if IntKind.wrap IntKind.i64 ((0 : Int) - b) > if b > if IntKind.wrap IntKind.i64 ((0 : Int) - a) > if a > (0 : Int) then a else (0 : Int) then IntKind.wrap IntKind.i64 ((0 : Int) - a) else if a > (0 : Int) then a else (0 : Int) then b else if IntKind.wrap IntKind.i64 ((0 : Int) - a) > if a > (0 : Int) then a else (0 : Int) then IntKind.wrap IntKind.i64 ((0 : Int) - a) else if a > (0 : Int) then a else (0 : Int) then IntKind.wrap IntKind.i64 ((0 : Int) - b) else if b > if IntKind.wrap IntKind.i64 ((0 : Int) - a) > if a > (0 : Int) then a else (0 : Int) then IntKind.wrap IntKind.i64 ((0 : Int) - a) else if a > (0 : Int) then a else (0 : Int) then b else if IntKind.wrap IntKind.i64 ((0 : Int) - a) > if a > (0 : Int) then a else (0 : Int) then IntKind.wrap IntKind.i64 ((0 : Int) - a) else if a > (0 : Int) then a else (0 : Int) then d else if IntKind.wrap IntKind.i64 ((0 : Int) - c) > if c > if IntKind.wrap IntKind.i64 ((0 : Int) - b) > if b > if IntKind.wrap IntKind.i64 ((0 : Int) - a) > if a > (0 : Int) then a else (0 : Int) then IntKind.wrap IntKind.i64 ((0 : Int) - a) else if a > (0 : Int) then a else (0 : Int) then b else if IntKind.wrap IntKind.i64 ((0 : Int) - a) > if a > (0 : Int) then a else (0 : Int) then IntKind.wrap IntKind.i64 ((0 : Int) - a) else if a > (0 : Int) then a else (0 : Int) then IntKind.wrap IntKind.i64 ((0 : Int) - b) else if b > if IntKind.wrap IntKind.i64 ((0 : Int) - a) > if a > (0 : Int) then a else (0 : Int) then IntKind.wrap IntKind.i64 ((0 : Int) - a) else if a > (0 : Int) then a else (0 : Int) then b else if IntKind.wrap IntKind.i64 ((0 : Int) - a) > if a > (0 : Int) then a else (0 : Int) then IntKind.wrap IntKind.i64 ((0 : Int) - a) else if a > (0 : Int) then a else (0 : Int) then c else if IntKind.wrap IntKind.i64 ((0 : Int) - b) > if b > if IntKind.wrap IntKind.i64 ((0 : Int) - a) > if a > (0 : Int) then a else (0 : Int) then IntKind.wrap IntKind.i64 ((0 : Int) - a) else if a > (0 : Int) then a else (0 : Int) then b else if IntKind.wrap IntKind.i64 ((0 : Int) - a) > if a > (0 : Int) then a else (0 : Int) then IntKind.wrap IntKind.i64 ((0 : Int) - a) else if a > (0 : Int) then a else (0 : Int) then IntKind.wrap IntKind.i64 ((0 : Int) - b) else if b > if IntKind.wrap IntKind.i64 ((0 : Int) - a) > if a > (0 : Int) then a else (0 : Int) then IntKind.wrap IntKind.i64 ((0 : Int) - a) else if a > (0 : Int) then a else (0 : Int) then b else if IntKind.wrap IntKind.i64 ((0 : Int) - a) > if a > (0 : Int) then a else (0 : Int) then IntKind.wrap IntKind.i64 ((0 : Int) - a) else if a > (0 : Int) then a else (0 : Int) then IntKind.wrap IntKind.i64 ((0 : Int) - c) else if c > if IntKind.wrap IntKind.i64 ((0 : Int) - b) > if b > if IntKind.wrap IntKind.i64 ((0 : Int) - a) > if a > (0 : Int) then a else (0 : Int) then IntKind.wrap IntKind.i64 ((0 : Int) - a) else if a > (0 : Int) then a else (0 : Int) then b else if IntKind.wrap IntKind.i64 ((0 : Int) - a) > if a > (0 : Int) then a else (0 : Int) then IntKind.wrap IntKind.i64 ((0 : Int) - a) else if a > (0 : Int) then a else (0 : Int) then IntKind.wrap IntKind.i64 ((0 : Int) - b) else if b > if IntKind.wrap IntKind.i64 ((0 : Int) - a) > if a > (0 : Int) then a else (0 : Int) then IntKind.wrap IntKind.i64 ((0 : Int) - a) else if a > (0 : Int) then a else (0 : Int) then b else if IntKind.wrap IntKind.i64 ((0 : Int) - a) > if a > (0 : Int) then a else (0 : Int) then IntKind.wrap IntKind.i64 ((0 : Int) - a) else if a > (0 : Int) then a else (0 : Int) then c else if IntKind.wrap IntKind.i64 ((0 : Int) - b) > if b > if IntKind.wrap IntKind.i64 ((0 : Int) - a) > if a > (0 : Int) then a else (0 : Int) then IntKind.wrap IntKind.i64 ((0 : Int) - a) else if a > (0 : Int) then a else (0 : Int) then b else if IntKind.wrap IntKind.i64 ((0 : Int) - a) > if a > (0 : Int) then a else (0 : Int) then IntKind.wrap IntKind.i64 ((0 : Int) - a) else if a > (0 : Int) then a else (0 : Int) then IntKind.wrap IntKind.i64 ((0 : Int) - b) else if b > if IntKind.wrap IntKind.i64 ((0 : Int) - a) > if a > (0 : Int) then a else (0 : Int) then IntKind.wrap IntKind.i64 ((0 : Int) - a) else if a > (0 : Int) then a else (0 : Int) then b else if IntKind.wrap IntKind.i64 ((0 : Int) - a) > if a > (0 : Int) then a else (0 : Int) then IntKind.wrap IntKind.i64 ((0 : Int) - a) else if a > (0 : Int) then a else (0 : Int) then IntKind.wrap IntKind.i64 ((0 : Int) - d) else if d > if IntKind.wrap IntKind.i64 ((0 : Int) - c) > if c > if IntKind.wrap IntKind.i64 ((0 : Int) - b) > if b > if IntKind.wrap IntKind.i64 ((0 : Int) - a) > if a > (0 : Int) then a else (0 : Int) then IntKind.wrap IntKind.i64 ((0 : Int) - a) else if a > (0 : Int) then a else (0 : Int) then b else if IntKind.wrap IntKind.i64 ((0 : Int) - a) > if a > (0 : Int) then a else (0 : Int) then IntKind.wrap IntKind.i64 ((0 : Int) - a) else if a > (0 : Int) then a else (0 : Int) then IntKind.wrap IntKind.i64 ((0 : Int) - b) else if b > if IntKind.wrap IntKind.i64 ((0 : Int) - a) > if a > (0 : Int) then a else (0 : Int) then IntKind.wrap IntKind.i64 ((0 : Int) - a) else if a > (0 : Int) then a else (0 : Int) then b else if IntKind.wrap IntKind.i64 ((0 : Int) - a) > if a > (0 : Int) then a else (0 : Int) then IntKind.wrap IntKind.i64 ((0 : Int) - a) else if a > (0 : Int) then a else (0 : Int) then c else if IntKind.wrap IntKind.i64 ((0 : Int) - b) > if b > if IntKind.wrap IntKind.i64 ((0 : Int) - a) > if a > (0 : Int) then a else (0 : Int) then IntKind.wrap IntKind.i64 ((0 : Int) - a) else if a > (0 : Int) then a else (0 : Int) then b else if IntKind.wrap IntKind.i64 ((0 : Int) - a) > if a > (0 : Int) then a else (0 : Int) then IntKind.wrap IntKind.i64 ((0 : Int) - a) else if a > (0 : Int) then a else (0 : Int) then IntKind.wrap IntKind.i64 ((0 : Int) - b) else if b > if IntKind.wrap IntKind.i64 ((0 : Int) - a) > if a > (0 : Int) then a else (0 : Int) then IntKind.wrap IntKind.i64 ((0 : Int) - a) else if a > (0 : Int) then a else (0 : Int) then b else if IntKind.wrap IntKind.i64 ((0 : Int) - a) > if a > (0 : Int) then a else (0 : Int) then IntKind.wrap IntKind.i64 ((0 : Int) - a) else if a > (0 : Int) then a else (0 : Int) then IntKind.wrap IntKind.i64 ((0 : Int) - c) else if c > if IntKind.wrap IntKind.i64 ((0 : Int) - b) > if b > if IntKind.wrap IntKind.i64 ((0 : Int) - a) > if a > (0 : Int) then a else (0 : Int) then IntKind.wrap IntKind.i64 ((0 : Int) - a) else if a > (0 : Int) then a else (0 : Int) then b else if IntKind.wrap IntKind.i64 ((0 : Int) - a) > if a > (0 : Int) then a else (0 : Int) then IntKind.wrap IntKind.i64 ((0 : Int) - a) else if a > (0 : Int) then a else (0 : Int) then IntKind.wrap IntKind.i64 ((0 : Int) - b) else if b > if IntKind.wrap IntKind.i64 ((0 : Int) - a) > if a > (0 : Int) then a else (0 : Int) then IntKind.wrap IntKind.i64 ((0 : Int) - a) else if a > (0 : Int) then a else (0 : Int) then b else if IntKind.wrap IntKind.i64 ((0 : Int) - a) > if a > (0 : Int) then a else (0 : Int) then IntKind.wrap IntKind.i64 ((0 : Int) - a) else if a > (0 : Int) then a else (0 : Int) then c else if IntKind.wrap IntKind.i64 ((0 : Int) - b) > if b > if IntKind.wrap IntKind.i64 ((0 : Int) - a) > if a > (0 : Int) then a else (0 : Int) then IntKind.wrap IntKind.i64 ((0 : Int) - a) else if a > (0 : Int) then a else (0 : Int) then b else if IntKind.wrap IntKind.i64 ((0 : Int) - a) > if a > (0 : Int) then a else (0 : Int) then IntKind.wrap IntKind.i64 ((0 : Int) - a) else if a > (0 : Int) then a else (0 : Int) then IntKind.wrap IntKind.i64 ((0 : Int) - b) else if b > if IntKind.wrap IntKind.i64 ((0 : Int) - a) > if a > (0 : Int) then a else (0 : Int) then IntKind.wrap IntKind.i64 ((0 : Int) - a) else if a > (0 : Int) then a else (0 : Int) then b else if IntKind.wrap IntKind.i64 ((0 : Int) - a) > if a > (0 : Int) then a else (0 : Int) then IntKind.wrap IntKind.i64 ((0 : Int) - a) else if a > (0 : Int) then a else (0 : Int) then d else if IntKind.wrap IntKind.i64 ((0 : Int) - c) > if c > if IntKind.wrap IntKind.i64 ((0 : Int) - b) > if b > if IntKind.wrap IntKind.i64 ((0 : Int) - a) > if a > (0 : Int) then a else (0 : Int) then IntKind.wrap IntKind.i64 ((0 : Int) - a) else if a > (0 : Int) then a else (0 : Int) then b else if IntKind.wrap IntKind.i64 ((0 : Int) - a) > if a > (0 : Int) then a else (0 : Int) then IntKind.wrap IntKind.i64 ((0 : Int) - a) else if a > (0 : Int) then a else (0 : Int) then IntKind.wrap IntKind.i64 ((0 : Int) - b) else if b > if IntKind.wrap IntKind.i64 ((0 : Int) - a) > if a > (0 : Int) then a else (0 : Int) then IntKind.wrap IntKind.i64 ((0 : Int) - a) else if a > (0 : Int) then a else (0 : Int) then b else if IntKind.wrap IntKind.i64 ((0 : Int) - a) > if a > (0 : Int) then a else (0 : Int) then IntKind.wrap IntKind.i64 ((0 : Int) - a) else if a > (0 : Int) then a else (0 : Int) then c else if IntKind.wrap IntKind.i64 ((0 : Int) - b) > if b > if IntKind.wrap IntKind.i64 ((0 : Int) - a) > if a > (0 : Int) then a else (0 : Int) then IntKind.wrap IntKind.i64 ((0 : Int) - a) else if a > (0 : Int) then a else (0 : Int) then b else if IntKind.wrap IntKind.i64 ((0 : Int) - a) > if a > (0 : Int) then a else (0 : Int) then IntKind.wrap IntKind.i64 ((0 : Int) - a) else if a > (0 : Int) then a else (0 : Int) then IntKind.wrap IntKind.i64 ((0 : Int) - b) else if b > if IntKind.wrap IntKind.i64 ((0 : Int) - a) > if a > (0 : Int) then a else (0 : Int) then IntKind.wrap IntKind.i64 ((0 : Int) - a) else if a > (0 : Int) then a else (0 : Int) then b else if IntKind.wrap IntKind.i64 ((0 : Int) - a) > if a > (0 : Int) then a else (0 : Int) then IntKind.wrap IntKind.i64 ((0 : Int) - a) else if a > (0 : Int) then a else (0 : Int) then IntKind.wrap IntKind.i64 ((0 : Int) - c) else if c > if IntKind.wrap IntKind.i64 ((0 : Int) - b) > if b > if IntKind.wrap IntKind.i64 ((0 : Int) - a) > if a > (0 : Int) then a else (0 : Int) then IntKind.wrap IntKind.i64 ((0 : Int) - a) else if a > (0 : Int) then a else (0 : Int) then b else if IntKind.wrap IntKind.i64 ((0 : Int) - a) > if a > (0 : Int) then a else (0 : Int) then IntKind.wrap IntKind.i64 ((0 : Int) - a) else if a > (0 : Int) then a else (0 : Int) then IntKind.wrap IntKind.i64 ((0 : Int) - b) else if b > if IntKind.wrap IntKind.i64 ((0 : Int) - a) > if a > (0 : Int) then a else (0 : Int) then IntKind.wrap IntKind.i64 ((0 : Int) - a) else if a > (0 : Int) then a else (0 : Int) then b else if IntKind.wrap IntKind.i64 ((0 : Int) - a) > if a > (0 : Int) then a else (0 : Int) then IntKind.wrap IntKind.i64 ((0 : Int) - a) else if a > (0 : Int) then a else (0 : Int) then c else if IntKind.wrap IntKind.i64 ((0 : Int) - b) > if b > if IntKind.wrap IntKind.i64 ((0 : Int) - a) > if a > (0 : Int) then a else (0 : Int) then IntKind.wrap IntKind.i64 ((0 : Int) - a) else if a > (0 : Int) then a else (0 : Int) then b else if IntKind.wrap IntKind.i64 ((0 : Int) - a) > if a > (0 : Int) then a else (0 : Int) then IntKind.wrap IntKind.i64 ((0 : Int) - a) else if a > (0 : Int) then a else (0 : Int) then IntKind.wrap IntKind.i64 ((0 : Int) - b) else if b > if IntKind.wrap IntKind.i64 ((0 : Int) - a) > if a > (0 : Int) then a else (0 : Int) then IntKind.wrap IntKind.i64 ((0 : Int) - a) else if a > (0 : Int) then a else (0 : Int) then b else if IntKind.wrap IntKind.i64 ((0 : Int) - a) > if a > (0 : Int) then a else (0 : Int) then IntKind.wrap IntKind.i64 ((0 : Int) - a) else if a > (0 : Int) then a else (0 : Int))))) := by kernel_rfl
set_option maxHeartbeats 4000000 in
theorem dm_val (a : Int) (b : Int) (c : Int) (d : Int) : (.ret (.one (.v false (.int .i64 (bif !dval a b c d then (0 : Int) else if IntKind.wrap IntKind.i64 ((0 : Int) - d) > if d > if IntKind.wrap IntKind.i64 ((0 : Int) - c) > if c > if IntKind.wrap IntKind.i64 ((0 : Int) - b) > if b > if IntKind.wrap IntKind.i64 ((0 : Int) - a) > if a > (0 : Int) then a else (0 : Int) then IntKind.wrap IntKind.i64 ((0 : Int) - a) else if a > (0 : Int) then a else (0 : Int) then b else if IntKind.wrap IntKind.i64 ((0 : Int) - a) > if a > (0 : Int) then a else (0 : Int) then IntKind.wrap IntKind.i64 ((0 : Int) - a) else if a > (0 : Int) then a else (0 : Int) then IntKind.wrap IntKind.i64 ((0 : Int) - b) else if b > if IntKind.wrap IntKind.i64 ((0 : Int) - a) > if a > (0 : Int) then a else (0 : Int) then IntKind.wrap IntKind.i64 ((0 : Int) - a) else if a > (0 : Int) then a else (0 : Int) then b else if IntKind.wrap IntKind.i64 ((0 : Int) - a) > if a > (0 : Int) then a else (0 : Int) then IntKind.wrap IntKind.i64 ((0 : Int) - a) else if a > (0 : Int) then a else (0 : Int) then c else if IntKind.wrap IntKind.i64 ((0 : Int) - b) > if b > if IntKind.wrap IntKind.i64 ((0 : Int) - a) > if a > (0 : Int) then a else (0 : Int) then IntKind.wrap IntKind.i64 ((0 : Int) - a) else if a > (0 : Int) then a else (0 : Int) then b else if IntKind.wrap IntKind.i64 ((0 : Int) - a) > if a > (0 : Int) then a else (0 : Int) then IntKind.wrap IntKind.i64 ((0 : Int) - a) else if a > (0 : Int) then a else (0 : Int) then IntKind.wrap IntKind.i64 ((0 : Int) - b) else if b > if IntKind.wrap IntKind.i64 ((0 : Int) - a) > if a > (0 : Int) then a else (0 : Int) then IntKind.wrap IntKind.i64 ((0 : Int) - a) else if a > (0 : Int) then a else (0 : Int) then b else if IntKind.wrap IntKind.i64 ((0 : Int) - a) > if a > (0 : Int) then a else (0 : Int) then IntKind.wrap IntKind.i64 ((0 : Int) - a) else if a > (0 : Int) then a else (0 : Int) then IntKind.wrap IntKind.i64 ((0 : Int) - c) else if c > if IntKind.wrap IntKind.i64 ((0 : Int) - b) > if b > if IntKind.wrap IntKind.i64 ((0 : Int) - a) > if a > (0 : Int) then a else (0 : Int) then IntKind.wrap IntKind.i64 ((0 : Int) - a) else if a > (0 : Int) then a else (0 : Int) then b else if IntKind.wrap IntKind.i64 ((0 : Int) - a) > if a > (0 : Int) then a else (0 : Int) then IntKind.wrap IntKind.i64 ((0 : Int) - a) else if a > (0 : Int) then a else (0 : Int) then IntKind.wrap IntKind.i64 ((0 : Int) - b) else if b > if IntKind.wrap IntKind.i64 ((0 : Int) - a) > if a > (0 : Int) then a else (0 : Int) then IntKind.wrap IntKind.i64 ((0 : Int) - a) else if a > (0 : Int) then a else (0 : Int) then b else if IntKind.wrap IntKind.i64 ((0 : Int) - a) > if a > (0 : Int) then a else (0 : Int) then IntKind.wrap IntKind.i64 ((0 : Int) - a) else if a > (0 : Int) then a else (0 : Int) then c else if IntKind.wrap IntKind.i64 ((0 : Int) - b) > if b > if IntKind.wrap IntKind.i64 ((0 : Int) - a) > if a > (0 : Int) then a else (0 : Int) then IntKind.wrap IntKind.i64 ((0 : Int) - a) else if a > (0 : Int) then a else (0 : Int) then b else if IntKind.wrap IntKind.i64 ((0 : Int) - a) > if a > (0 : Int) then a else (0 : Int) then IntKind.wrap IntKind.i64 ((0 : Int) - a) else if a > (0 : Int) then a else (0 : Int) then IntKind.wrap IntKind.i64 ((0 : Int) - b) else if b > if IntKind.wrap IntKind.i64 ((0 : Int) - a) > if a > (0 : Int) then a else (0 : Int) then IntKind.wrap IntKind.i64 ((0 : Int) - a) else if a > (0 : Int) then a else (0 : Int) then b else if IntKind.wrap IntKind.i64 ((0 : Int) - a) > if a > (0 : Int) then a else (0 : Int) then IntKind.wrap IntKind.i64 ((0 : Int) - a) else if a > (0 : Int) then a else (0 : Int) then d else if IntKind.wrap IntKind.i64 ((0 : Int) - c) > if c > if IntKind.wrap IntKind.i64 ((0 : Int) - b) > if b > if IntKind.wrap IntKind.i64 ((0 : Int) - a) > if a > (0 : Int) then a else (0 : Int) then IntKind.wrap IntKind.i64 ((0 : Int) - a) else if a > (0 : Int) then a else (0 : Int) then b else if IntKind.wrap IntKind.i64 ((0 : Int) - a) > if a > (0 : Int) then a else (0 : Int) then IntKind.wrap IntKind.i64 ((0 : Int) - a) else if a > (0 : Int) then a else (0 : Int) then IntKind.wrap IntKind.i64 ((0 : Int) - b) else if b > if IntKind.wrap IntKind.i64 ((0 : Int) - a) > if a > (0 : Int) then a else (0 : Int) then IntKind.wrap IntKind.i64 ((0 : Int) - a) else if a > (0 : Int) then a else (0 : Int) then b else if IntKind.wrap IntKind.i64 ((0 : Int) - a) > if a > (0 : Int) then a else (0 : Int) then IntKind.wrap IntKind.i64 ((0 : Int) - a) else if a > (0 : Int) then a else (0 : Int) then c else if IntKind.wrap IntKind.i64 ((0 : Int) - b) > if b > if IntKind.wrap IntKind.i64 ((0 : Int) - a) > if a > (0 : Int) then a else (0 : Int) then IntKind.wrap IntKind.i64 ((0 : Int) - a) else if a > (0 : Int) then a else (0 : Int) then b else if IntKind.wrap IntKind.i64 ((0 : Int) - a) > if a > (0 : Int) then a else (0 : Int) then IntKind.wrap IntKind.i64 ((0 : Int) - a) else if a > (0 : Int) then a else (0 : Int) then IntKind.wrap IntKind.i64 ((0 : Int) - b) else if b > if IntKind.wrap IntKind.i64 ((0 : Int) - a) > if a > (0 : Int) then a else (0 : Int) then IntKind.wrap IntKind.i64 ((0 : Int) - a) else if a > (0 : Int) then a else (0 : Int) then b else if IntKind.wrap IntKind.i64 ((0 : Int) - a) > if a > (0 : Int) then a else (0 : Int) then IntKind.wrap IntKind.i64 ((0 : Int) - a) else if a > (0 : Int) then a else (0 : Int) then IntKind.wrap IntKind.i64 ((0 : Int) - c) else if c > if IntKind.wrap IntKind.i64 ((0 : Int) - b) > if b > if IntKind.wrap IntKind.i64 ((0 : Int) - a) > if a > (0 : Int) then a else (0 : Int) then IntKind.wrap IntKind.i64 ((0 : Int) - a) else if a > (0 : Int) then a else (0 : Int) then b else if IntKind.wrap IntKind.i64 ((0 : Int) - a) > if a > (0 : Int) then a else (0 : Int) then IntKind.wrap IntKind.i64 ((0 : Int) - a) else if a > (0 : Int) then a else (0 : Int) then IntKind.wrap IntKind.i64 ((0 : Int) - b) else if b > if IntKind.wrap IntKind.i64 ((0 : Int) - a) > if a > (0 : Int) then a else (0 : Int) then IntKind.wrap IntKind.i64 ((0 : Int) - a) else if a > (0 : Int) then a else (0 : Int) then b else if IntKind.wrap IntKind.i64 ((0 : Int) - a) > if a > (0 : Int) then a else (0 : Int) then IntKind.wrap IntKind.i64 ((0 : Int) - a) else if a > (0 : Int) then a else (0 : Int) then c else if IntKind.wrap IntKind.i64 ((0 : Int) - b) > if b > if IntKind.wrap IntKind.i64 ((0 : Int) - a) > if a > (0 : Int) then a else (0 : Int) then IntKind.wrap IntKind.i64 ((0 : Int) - a) else if a > (0 : Int) then a else (0 : Int) then b else if IntKind.wrap IntKind.i64 ((0 : Int) - a) > if a > (0 : Int) then a else (0 : Int) then IntKind.wrap IntKind.i64 ((0 : Int) - a) else if a > (0 : Int) then a else (0 : Int) then IntKind.wrap IntKind.i64 ((0 : Int) - b) else if b > if IntKind.wrap IntKind.i64 ((0 : Int) - a) > if a > (0 : Int) then a else (0 : Int) then IntKind.wrap IntKind.i64 ((0 : Int) - a) else if a > (0 : Int) then a else (0 : Int) then b else if IntKind.wrap IntKind.i64 ((0 : Int) - a) > if a > (0 : Int) then a else (0 : Int) then IntKind.wrap IntKind.i64 ((0 : Int) - a) else if a > (0 : Int) then a else (0 : Int) then IntKind.wrap IntKind.i64 ((0 : Int) - d) else if d > if IntKind.wrap IntKind.i64 ((0 : Int) - c) > if c > if IntKind.wrap IntKind.i64 ((0 : Int) - b) > if b > if IntKind.wrap IntKind.i64 ((0 : Int) - a) > if a > (0 : Int) then a else (0 : Int) then IntKind.wrap IntKind.i64 ((0 : Int) - a) else if a > (0 : Int) then a else (0 : Int) then b else if IntKind.wrap IntKind.i64 ((0 : Int) - a) > if a > (0 : Int) then a else (0 : Int) then IntKind.wrap IntKind.i64 ((0 : Int) - a) else if a > (0 : Int) then a else (0 : Int) then IntKind.wrap IntKind.i64 ((0 : Int) - b) else if b > if IntKind.wrap IntKind.i64 ((0 : Int) - a) > if a > (0 : Int) then a else (0 : Int) then IntKind.wrap IntKind.i64 ((0 : Int) - a) else if a > (0 : Int) then a else (0 : Int) then b else if IntKind.wrap IntKind.i64 ((0 : Int) - a) > if a > (0 : Int) then a else (0 : Int) then IntKind.wrap IntKind.i64 ((0 : Int) - a) else if a > (0 : Int) then a else (0 : Int) then c else if IntKind.wrap IntKind.i64 ((0 : Int) - b) > if b > if IntKind.wrap IntKind.i64 ((0 : Int) - a) > if a > (0 : Int) then a else (0 : Int) then IntKind.wrap IntKind.i64 ((0 : Int) - a) else if a > (0 : Int) then a else (0 : Int) then b else if IntKind.wrap IntKind.i64 ((0 : Int) - a) > if a > (0 : Int) then a else (0 : Int) then IntKind.wrap IntKind.i64 ((0 : Int) - a) else if a > (0 : Int) then a else (0 : Int) then IntKind.wrap IntKind.i64 ((0 : Int) - b) else if b > if IntKind.wrap IntKind.i64 ((0 : Int) - a) > if a > (0 : Int) then a else (0 : Int) then IntKind.wrap IntKind.i64 ((0 : Int) - a) else if a > (0 : Int) then a else (0 : Int) then b else if IntKind.wrap IntKind.i64 ((0 : Int) - a) > if a > (0 : Int) then a else (0 : Int) then IntKind.wrap IntKind.i64 ((0 : Int) - a) else if a > (0 : Int) then a else (0 : Int) then IntKind.wrap IntKind.i64 ((0 : Int) - c) else if c > if IntKind.wrap IntKind.i64 ((0 : Int) - b) > if b > if IntKind.wrap IntKind.i64 ((0 : Int) - a) > if a > (0 : Int) then a else (0 : Int) then IntKind.wrap IntKind.i64 ((0 : Int) - a) else if a > (0 : Int) then a else (0 : Int) then b else if IntKind.wrap IntKind.i64 ((0 : Int) - a) > if a > (0 : Int) then a else (0 : Int) then IntKind.wrap IntKind.i64 ((0 : Int) - a) else if a > (0 : Int) then a else (0 : Int) then IntKind.wrap IntKind.i64 ((0 : Int) - b) else if b > if IntKind.wrap IntKind.i64 ((0 : Int) - a) > if a > (0 : Int) then a else (0 : Int) then IntKind.wrap IntKind.i64 ((0 : Int) - a) else if a > (0 : Int) then a else (0 : Int) then b else if IntKind.wrap IntKind.i64 ((0 : Int) - a) > if a > (0 : Int) then a else (0 : Int) then IntKind.wrap IntKind.i64 ((0 : Int) - a) else if a > (0 : Int) then a else (0 : Int) then c else if IntKind.wrap IntKind.i64 ((0 : Int) - b) > if b > if IntKind.wrap IntKind.i64 ((0 : Int) - a) > if a > (0 : Int) then a else (0 : Int) then IntKind.wrap IntKind.i64 ((0 : Int) - a) else if a > (0 : Int) then a else (0 : Int) then b else if IntKind.wrap IntKind.i64 ((0 : Int) - a) > if a > (0 : Int) then a else (0 : Int) then IntKind.wrap IntKind.i64 ((0 : Int) - a) else if a > (0 : Int) then a else (0 : Int) then IntKind.wrap IntKind.i64 ((0 : Int) - b) else if b > if IntKind.wrap IntKind.i64 ((0 : Int) - a) > if a > (0 : Int) then a else (0 : Int) then IntKind.wrap IntKind.i64 ((0 : Int) - a) else if a > (0 : Int) then a else (0 : Int) then b else if IntKind.wrap IntKind.i64 ((0 : Int) - a) > if a > (0 : Int) then a else (0 : Int) then IntKind.wrap IntKind.i64 ((0 : Int) - a) else if a > (0 : Int) then a else (0 : Int) then d else if IntKind.wrap IntKind.i64 ((0 : Int) - c) > if c > if IntKind.wrap IntKind.i64 ((0 : Int) - b) > if b > if IntKind.wrap IntKind.i64 ((0 : Int) - a) > if a > (0 : Int) then a else (0 : Int) then IntKind.wrap IntKind.i64 ((0 : Int) - a) else if a > (0 : Int) then a else (0 : Int) then b else if IntKind.wrap IntKind.i64 ((0 : Int) - a) > if a > (0 : Int) then a else (0 : Int) then IntKind.wrap IntKind.i64 ((0 : Int) - a) else if a > (0 : Int) then a else (0 : Int) then IntKind.wrap IntKind.i64 ((0 : Int) - b) else if b > if IntKind.wrap IntKind.i64 ((0 : Int) - a) > if a > (0 : Int) then a else (0 : Int) then IntKind.wrap IntKind.i64 ((0 : Int) - a) else if a > (0 : Int) then a else (0 : Int) then b else if IntKind.wrap IntKind.i64 ((0 : Int) - a) > if a > (0 : Int) then a else (0 : Int) then IntKind.wrap IntKind.i64 ((0 : Int) - a) else if a > (0 : Int) then a else (0 : Int) then c else if IntKind.wrap IntKind.i64 ((0 : Int) - b) > if b > if IntKind.wrap IntKind.i64 ((0 : Int) - a) > if a > (0 : Int) then a else (0 : Int) then IntKind.wrap IntKind.i64 ((0 : Int) - a) else if a > (0 : Int) then a else (0 : Int) then b else if IntKind.wrap IntKind.i64 ((0 : Int) - a) > if a > (0 : Int) then a else (0 : Int) then IntKind.wrap IntKind.i64 ((0 : Int) - a) else if a > (0 : Int) then a else (0 : Int) then IntKind.wrap IntKind.i64 ((0 : Int) - b) else if b > if IntKind.wrap IntKind.i64 ((0 : Int) - a) > if a > (0 : Int) then a else (0 : Int) then IntKind.wrap IntKind.i64 ((0 : Int) - a) else if a > (0 : Int) then a else (0 : Int) then b else if IntKind.wrap IntKind.i64 ((0 : Int) - a) > if a > (0 : Int) then a else (0 : Int) then IntKind.wrap IntKind.i64 ((0 : Int) - a) else if a > (0 : Int) then a else (0 : Int) then IntKind.wrap IntKind.i64 ((0 : Int) - c) else if c > if IntKind.wrap IntKind.i64 ((0 : Int) - b) > if b > if IntKind.wrap IntKind.i64 ((0 : Int) - a) > if a > (0 : Int) then a else (0 : Int) then IntKind.wrap IntKind.i64 ((0 : Int) - a) else if a > (0 : Int) then a else (0 : Int) then b else if IntKind.wrap IntKind.i64 ((0 : Int) - a) > if a > (0 : Int) then a else (0 : Int) then IntKind.wrap IntKind.i64 ((0 : Int) - a) else if a > (0 : Int) then a else (0 : Int) then IntKind.wrap IntKind.i64 ((0 : Int) - b) else if b > if IntKind.wrap IntKind.i64 ((0 : Int) - a) > if a > (0 : Int) then a else (0 : Int) then IntKind.wrap IntKind.i64 ((0 : Int) - a) else if a > (0 : Int) then a else (0 : Int) then b else if IntKind.wrap IntKind.i64 ((0 : Int) - a) > if a > (0 : Int) then a else (0 : Int) then IntKind.wrap IntKind.i64 ((0 : Int) - a) else if a > (0 : Int) then a else (0 : Int) then c else if IntKind.wrap IntKind.i64 ((0 : Int) - b) > if b > if IntKind.wrap IntKind.i64 ((0 : Int) - a) > if a > (0 : Int) then a else (0 : Int) then IntKind.wrap IntKind.i64 ((0 : Int) - a) else if a > (0 : Int) then a else (0 : Int) then b else if IntKind.wrap IntKind.i64 ((0 : Int) - a) > if a > (0 : Int) then a else (0 : Int) then IntKind.wrap IntKind.i64 ((0 : Int) - a) else if a > (0 : Int) then a else (0 : Int) then IntKind.wrap IntKind.i64 ((0 : Int) - b) else if b > if IntKind.wrap IntKind.i64 ((0 : Int) - a) > if a > (0 : Int) then a else (0 : Int) then IntKind.wrap IntKind.i64 ((0 : Int) - a) else if a > (0 : Int) then a else (0 : Int) then b else if IntKind.wrap IntKind.i64 ((0 : Int) - a) > if a > (0 : Int) then a else (0 : Int) then IntKind.wrap IntKind.i64 ((0 : Int) - a) else if a > (0 : Int) then a else (0 : Int))))) : Tr AV).val = some (.one (.v false (.int .i64 (dom a b c d)))) := by
  refine congrArg (fun b => some (AV.one (.v false (.int .i64 b)))) ?_
  cases hv : dval a b c d
  · simp only [dom, hv]; rfl
  · obtain ⟨e0, e1, e2, e3, _⟩ := dv_iff.1 hv
    simp only [neg_w e0, neg_w e1, neg_w e2, neg_w e3, Bool.not_true, cond_false]
    simp only [dom, if_pos hv]; rfl
def dm_g : List AV → Option (Tr AV)
  | [.ag [.v _ (.int .i64 a), .v _ (.int .i64 b), .v _ (.int .i64 c), .v _ (.int .i64 d)]] => some (.ret (.one (.v false (.int .i64 (dom a b c d)))))
  | _ => none
theorem dm_ok : FunOK Try.prog 41 dm_g := by
  refine fun_ok (by kernel_rfl) (lmA_S4_ok) (L0_ok _) 9 (On := (opens [])) (fun args t h => ?_)
  unfold dm_g at h
  split at h
  · rename_i _ a _ b _ c _ d
    simp only [Option.some.injEq] at h
    subst h
    refine ⟨[.ag [.v false (.int .i64 a), .v false (.int .i64 b), .v false (.int .i64 c), .v false (.int .i64 d)]], rfl, fun fr w us h => h, fun r hr => ?_⟩
    simp only [Tr.val, Option.some.injEq] at hr
    subst hr
    rw [dm_tree]
    exact dm_val a b c d
  · cases h
def lmA_S5 : Sums := addS 41 dm_g lmA_S4
theorem lmA_S5_ok : SumOK Try.prog lmA_S5 := addS_ok (dm_ok) (lmA_S4_ok)
set_option maxRecDepth 100000 in
theorem rdm_tree (a : Int) (b : Int) (c : Int) (d : Int) : evalF Try.prog lmA_S5 (opens []) L0 9 22 [.ag [.v false (.int .i64 a), .v false (.int .i64 b), .v false (.int .i64 c), .v false (.int .i64 d)]] = .ret (.one (.v false (.int .i64 (bif !dval a b c d then (0 : Int) else if (if IntKind.wrap IntKind.i64 ((0 : Int) - d) > d then IntKind.wrap IntKind.i64 ((0 : Int) - d) else d) > if (if IntKind.wrap IntKind.i64 ((0 : Int) - c) > c then IntKind.wrap IntKind.i64 ((0 : Int) - c) else c) > if (if IntKind.wrap IntKind.i64 ((0 : Int) - b) > b then IntKind.wrap IntKind.i64 ((0 : Int) - b) else b) > if (if IntKind.wrap IntKind.i64 ((0 : Int) - a) > a then IntKind.wrap IntKind.i64 ((0 : Int) - a) else a) > (0 : Int) then if IntKind.wrap IntKind.i64 ((0 : Int) - a) > a then IntKind.wrap IntKind.i64 ((0 : Int) - a) else a else (0 : Int) then if IntKind.wrap IntKind.i64 ((0 : Int) - b) > b then IntKind.wrap IntKind.i64 ((0 : Int) - b) else b else if (if IntKind.wrap IntKind.i64 ((0 : Int) - a) > a then IntKind.wrap IntKind.i64 ((0 : Int) - a) else a) > (0 : Int) then if IntKind.wrap IntKind.i64 ((0 : Int) - a) > a then IntKind.wrap IntKind.i64 ((0 : Int) - a) else a else (0 : Int) then if IntKind.wrap IntKind.i64 ((0 : Int) - c) > c then IntKind.wrap IntKind.i64 ((0 : Int) - c) else c else if (if IntKind.wrap IntKind.i64 ((0 : Int) - b) > b then IntKind.wrap IntKind.i64 ((0 : Int) - b) else b) > if (if IntKind.wrap IntKind.i64 ((0 : Int) - a) > a then IntKind.wrap IntKind.i64 ((0 : Int) - a) else a) > (0 : Int) then if IntKind.wrap IntKind.i64 ((0 : Int) - a) > a then IntKind.wrap IntKind.i64 ((0 : Int) - a) else a else (0 : Int) then if IntKind.wrap IntKind.i64 ((0 : Int) - b) > b then IntKind.wrap IntKind.i64 ((0 : Int) - b) else b else if (if IntKind.wrap IntKind.i64 ((0 : Int) - a) > a then IntKind.wrap IntKind.i64 ((0 : Int) - a) else a) > (0 : Int) then if IntKind.wrap IntKind.i64 ((0 : Int) - a) > a then IntKind.wrap IntKind.i64 ((0 : Int) - a) else a else (0 : Int) then if IntKind.wrap IntKind.i64 ((0 : Int) - d) > d then IntKind.wrap IntKind.i64 ((0 : Int) - d) else d else if (if IntKind.wrap IntKind.i64 ((0 : Int) - c) > c then IntKind.wrap IntKind.i64 ((0 : Int) - c) else c) > if (if IntKind.wrap IntKind.i64 ((0 : Int) - b) > b then IntKind.wrap IntKind.i64 ((0 : Int) - b) else b) > if (if IntKind.wrap IntKind.i64 ((0 : Int) - a) > a then IntKind.wrap IntKind.i64 ((0 : Int) - a) else a) > (0 : Int) then if IntKind.wrap IntKind.i64 ((0 : Int) - a) > a then IntKind.wrap IntKind.i64 ((0 : Int) - a) else a else (0 : Int) then if IntKind.wrap IntKind.i64 ((0 : Int) - b) > b then IntKind.wrap IntKind.i64 ((0 : Int) - b) else b else if (if IntKind.wrap IntKind.i64 ((0 : Int) - a) > a then IntKind.wrap IntKind.i64 ((0 : Int) - a) else a) > (0 : Int) then if IntKind.wrap IntKind.i64 ((0 : Int) - a) > a then IntKind.wrap IntKind.i64 ((0 : Int) - a) else a else (0 : Int) then if IntKind.wrap IntKind.i64 ((0 : Int) - c) > c then IntKind.wrap IntKind.i64 ((0 : Int) - c) else c else if (if IntKind.wrap IntKind.i64 ((0 : Int) - b) > b then IntKind.wrap IntKind.i64 ((0 : Int) - b) else b) > if (if IntKind.wrap IntKind.i64 ((0 : Int) - a) > a then IntKind.wrap IntKind.i64 ((0 : Int) - a) else a) > (0 : Int) then if IntKind.wrap IntKind.i64 ((0 : Int) - a) > a then IntKind.wrap IntKind.i64 ((0 : Int) - a) else a else (0 : Int) then if IntKind.wrap IntKind.i64 ((0 : Int) - b) > b then IntKind.wrap IntKind.i64 ((0 : Int) - b) else b else if (if IntKind.wrap IntKind.i64 ((0 : Int) - a) > a then IntKind.wrap IntKind.i64 ((0 : Int) - a) else a) > (0 : Int) then if IntKind.wrap IntKind.i64 ((0 : Int) - a) > a then IntKind.wrap IntKind.i64 ((0 : Int) - a) else a else (0 : Int))))) := by kernel_rfl
set_option maxHeartbeats 4000000 in
theorem rdm_val (a : Int) (b : Int) (c : Int) (d : Int) : (.ret (.one (.v false (.int .i64 (bif !dval a b c d then (0 : Int) else if (if IntKind.wrap IntKind.i64 ((0 : Int) - d) > d then IntKind.wrap IntKind.i64 ((0 : Int) - d) else d) > if (if IntKind.wrap IntKind.i64 ((0 : Int) - c) > c then IntKind.wrap IntKind.i64 ((0 : Int) - c) else c) > if (if IntKind.wrap IntKind.i64 ((0 : Int) - b) > b then IntKind.wrap IntKind.i64 ((0 : Int) - b) else b) > if (if IntKind.wrap IntKind.i64 ((0 : Int) - a) > a then IntKind.wrap IntKind.i64 ((0 : Int) - a) else a) > (0 : Int) then if IntKind.wrap IntKind.i64 ((0 : Int) - a) > a then IntKind.wrap IntKind.i64 ((0 : Int) - a) else a else (0 : Int) then if IntKind.wrap IntKind.i64 ((0 : Int) - b) > b then IntKind.wrap IntKind.i64 ((0 : Int) - b) else b else if (if IntKind.wrap IntKind.i64 ((0 : Int) - a) > a then IntKind.wrap IntKind.i64 ((0 : Int) - a) else a) > (0 : Int) then if IntKind.wrap IntKind.i64 ((0 : Int) - a) > a then IntKind.wrap IntKind.i64 ((0 : Int) - a) else a else (0 : Int) then if IntKind.wrap IntKind.i64 ((0 : Int) - c) > c then IntKind.wrap IntKind.i64 ((0 : Int) - c) else c else if (if IntKind.wrap IntKind.i64 ((0 : Int) - b) > b then IntKind.wrap IntKind.i64 ((0 : Int) - b) else b) > if (if IntKind.wrap IntKind.i64 ((0 : Int) - a) > a then IntKind.wrap IntKind.i64 ((0 : Int) - a) else a) > (0 : Int) then if IntKind.wrap IntKind.i64 ((0 : Int) - a) > a then IntKind.wrap IntKind.i64 ((0 : Int) - a) else a else (0 : Int) then if IntKind.wrap IntKind.i64 ((0 : Int) - b) > b then IntKind.wrap IntKind.i64 ((0 : Int) - b) else b else if (if IntKind.wrap IntKind.i64 ((0 : Int) - a) > a then IntKind.wrap IntKind.i64 ((0 : Int) - a) else a) > (0 : Int) then if IntKind.wrap IntKind.i64 ((0 : Int) - a) > a then IntKind.wrap IntKind.i64 ((0 : Int) - a) else a else (0 : Int) then if IntKind.wrap IntKind.i64 ((0 : Int) - d) > d then IntKind.wrap IntKind.i64 ((0 : Int) - d) else d else if (if IntKind.wrap IntKind.i64 ((0 : Int) - c) > c then IntKind.wrap IntKind.i64 ((0 : Int) - c) else c) > if (if IntKind.wrap IntKind.i64 ((0 : Int) - b) > b then IntKind.wrap IntKind.i64 ((0 : Int) - b) else b) > if (if IntKind.wrap IntKind.i64 ((0 : Int) - a) > a then IntKind.wrap IntKind.i64 ((0 : Int) - a) else a) > (0 : Int) then if IntKind.wrap IntKind.i64 ((0 : Int) - a) > a then IntKind.wrap IntKind.i64 ((0 : Int) - a) else a else (0 : Int) then if IntKind.wrap IntKind.i64 ((0 : Int) - b) > b then IntKind.wrap IntKind.i64 ((0 : Int) - b) else b else if (if IntKind.wrap IntKind.i64 ((0 : Int) - a) > a then IntKind.wrap IntKind.i64 ((0 : Int) - a) else a) > (0 : Int) then if IntKind.wrap IntKind.i64 ((0 : Int) - a) > a then IntKind.wrap IntKind.i64 ((0 : Int) - a) else a else (0 : Int) then if IntKind.wrap IntKind.i64 ((0 : Int) - c) > c then IntKind.wrap IntKind.i64 ((0 : Int) - c) else c else if (if IntKind.wrap IntKind.i64 ((0 : Int) - b) > b then IntKind.wrap IntKind.i64 ((0 : Int) - b) else b) > if (if IntKind.wrap IntKind.i64 ((0 : Int) - a) > a then IntKind.wrap IntKind.i64 ((0 : Int) - a) else a) > (0 : Int) then if IntKind.wrap IntKind.i64 ((0 : Int) - a) > a then IntKind.wrap IntKind.i64 ((0 : Int) - a) else a else (0 : Int) then if IntKind.wrap IntKind.i64 ((0 : Int) - b) > b then IntKind.wrap IntKind.i64 ((0 : Int) - b) else b else if (if IntKind.wrap IntKind.i64 ((0 : Int) - a) > a then IntKind.wrap IntKind.i64 ((0 : Int) - a) else a) > (0 : Int) then if IntKind.wrap IntKind.i64 ((0 : Int) - a) > a then IntKind.wrap IntKind.i64 ((0 : Int) - a) else a else (0 : Int))))) : Tr AV).val = some (.one (.v false (.int .i64 (dom a b c d)))) := by
  refine congrArg (fun b => some (AV.one (.v false (.int .i64 b)))) ?_
  cases hv : dval a b c d
  · simp only [dom, hv]; rfl
  · obtain ⟨e0, e1, e2, e3, _⟩ := dv_iff.1 hv
    simp only [neg_w e0, neg_w e1, neg_w e2, neg_w e3, Bool.not_true, cond_false]
    show mx (mx (mx (mx 0 (mx a (0 - a))) (mx b (0 - b))) (mx c (0 - c))) (mx d (0 - d)) = _
    simp only [dom, if_pos hv, mx_assoc]
def rdm_g : List AV → Option (Tr AV)
  | [.ag [.v _ (.int .i64 a), .v _ (.int .i64 b), .v _ (.int .i64 c), .v _ (.int .i64 d)]] => some (.ret (.one (.v false (.int .i64 (dom a b c d)))))
  | _ => none
theorem rdm_ok : FunOK Try.prog 22 rdm_g := by
  refine fun_ok (by kernel_rfl) (lmA_S5_ok) (L0_ok _) 9 (On := (opens [])) (fun args t h => ?_)
  unfold rdm_g at h
  split at h
  · rename_i _ a _ b _ c _ d
    simp only [Option.some.injEq] at h
    subst h
    refine ⟨[.ag [.v false (.int .i64 a), .v false (.int .i64 b), .v false (.int .i64 c), .v false (.int .i64 d)]], rfl, fun fr w us h => h, fun r hr => ?_⟩
    simp only [Tr.val, Option.some.injEq] at hr
    subst hr
    rw [rdm_tree]
    exact rdm_val a b c d
  · cases h
def lmA_S6 : Sums := addS 22 rdm_g lmA_S5
theorem lmA_S6_ok : SumOK Try.prog lmA_S6 := addS_ok (rdm_ok) (lmA_S5_ok)
set_option maxRecDepth 100000 in
theorem kv_tree (n0 : Int) (d0 : Int) (s0 : Int) (a0 : Int) (j0 : Int) (l0 : Int) (h0 : Int) (n1 : Int) (d1 : Int) (s1 : Int) (a1 : Int) (j1 : Int) (l1 : Int) (h1 : Int) (n2 : Int) (d2 : Int) (s2 : Int) (a2 : Int) (j2 : Int) (l2 : Int) (h2 : Int) (n3 : Int) (d3 : Int) (s3 : Int) (a3 : Int) (j3 : Int) (l3 : Int) (h3 : Int) (xy : Bool) (tk : Int) : evalF Try.prog lmA_S6 (opens []) L0 7 39 [.ag [.v false (.int .i64 n0), .v false (.int .i64 d0), .v false (.int .i64 s0), .v false (.int .i64 a0), .v false (.int .i64 j0), .v false (.int .i64 l0), .v false (.int .i64 h0), .v false (.int .i64 n1), .v false (.int .i64 d1), .v false (.int .i64 s1), .v false (.int .i64 a1), .v false (.int .i64 j1), .v false (.int .i64 l1), .v false (.int .i64 h1), .v false (.int .i64 n2), .v false (.int .i64 d2), .v false (.int .i64 s2), .v false (.int .i64 a2), .v false (.int .i64 j2), .v false (.int .i64 l2), .v false (.int .i64 h2), .v false (.int .i64 n3), .v false (.int .i64 d3), .v false (.int .i64 s3), .v false (.int .i64 a3), .v false (.int .i64 j3), .v false (.int .i64 l3), .v false (.int .i64 h3), .v false (.bool xy), .v false (.int .i64 tk)]] = .ret (.one (.v false (.bool (bif !bif bif bif bif bif bif decide ((1 : Int) ≤ n0) then decide (n0 ≤ (65536 : Int)) else false then bif decide ((1 : Int) ≤ d0) then decide (d0 ≤ n0) else false else false then bif bif bif decide ((1 : Int) ≤ s0) then decide (s0 ≤ (1048576 : Int)) else false then bif decide ((1 : Int) ≤ a0) then decide (a0 ≤ (16777216 : Int)) else false else false then bif decide ((1 : Int) ≤ j0) then decide (j0 ≤ (1048576 : Int)) else false else false else false then decide (l0 ≤ h0) else false then decide (l0 ≥ (-1048576 : Int)) else false then decide (h0 ≤ (1048576 : Int)) else false then false else bif !bif bif bif bif bif bif decide ((1 : Int) ≤ n1) then decide (n1 ≤ (65536 : Int)) else false then bif decide ((1 : Int) ≤ d1) then decide (d1 ≤ n1) else false else false then bif bif bif decide ((1 : Int) ≤ s1) then decide (s1 ≤ (1048576 : Int)) else false then bif decide ((1 : Int) ≤ a1) then decide (a1 ≤ (16777216 : Int)) else false else false then bif decide ((1 : Int) ≤ j1) then decide (j1 ≤ (1048576 : Int)) else false else false else false then decide (l1 ≤ h1) else false then decide (l1 ≥ (-1048576 : Int)) else false then decide (h1 ≤ (1048576 : Int)) else false then false else bif !bif bif bif bif bif bif decide ((1 : Int) ≤ n2) then decide (n2 ≤ (65536 : Int)) else false then bif decide ((1 : Int) ≤ d2) then decide (d2 ≤ n2) else false else false then bif bif bif decide ((1 : Int) ≤ s2) then decide (s2 ≤ (1048576 : Int)) else false then bif decide ((1 : Int) ≤ a2) then decide (a2 ≤ (16777216 : Int)) else false else false then bif decide ((1 : Int) ≤ j2) then decide (j2 ≤ (1048576 : Int)) else false else false else false then decide (l2 ≤ h2) else false then decide (l2 ≥ (-1048576 : Int)) else false then decide (h2 ≤ (1048576 : Int)) else false then false else bif !bif bif bif bif bif bif decide ((1 : Int) ≤ n3) then decide (n3 ≤ (65536 : Int)) else false then bif decide ((1 : Int) ≤ d3) then decide (d3 ≤ n3) else false else false then bif bif bif decide ((1 : Int) ≤ s3) then decide (s3 ≤ (1048576 : Int)) else false then bif decide ((1 : Int) ≤ a3) then decide (a3 ≤ (16777216 : Int)) else false else false then bif decide ((1 : Int) ≤ j3) then decide (j3 ≤ (1048576 : Int)) else false else false else false then decide (l3 ≤ h3) else false then decide (l3 ≥ (-1048576 : Int)) else false then decide (h3 ≤ (1048576 : Int)) else false then false else bif decide ((1 : Int) ≤ tk) then decide (tk ≤ (1048576 : Int)) else false)))) := by kernel_rfl
def kv0 (n0 : Int) (d0 : Int) (s0 : Int) (a0 : Int) (j0 : Int) (l0 : Int) (h0 : Int) (n1 : Int) (d1 : Int) (s1 : Int) (a1 : Int) (j1 : Int) (l1 : Int) (h1 : Int) (n2 : Int) (d2 : Int) (s2 : Int) (a2 : Int) (j2 : Int) (l2 : Int) (h2 : Int) (n3 : Int) (d3 : Int) (s3 : Int) (a3 : Int) (j3 : Int) (l3 : Int) (h3 : Int) (xy : Bool) (tk : Int) : Bool := bif !bif bif bif bif bif bif decide ((1 : Int) ≤ n0) then decide (n0 ≤ (65536 : Int)) else false then bif decide ((1 : Int) ≤ d0) then decide (d0 ≤ n0) else false else false then bif bif bif decide ((1 : Int) ≤ s0) then decide (s0 ≤ (1048576 : Int)) else false then bif decide ((1 : Int) ≤ a0) then decide (a0 ≤ (16777216 : Int)) else false else false then bif decide ((1 : Int) ≤ j0) then decide (j0 ≤ (1048576 : Int)) else false else false else false then decide (l0 ≤ h0) else false then decide (l0 ≥ (-1048576 : Int)) else false then decide (h0 ≤ (1048576 : Int)) else false then false else bif !bif bif bif bif bif bif decide ((1 : Int) ≤ n1) then decide (n1 ≤ (65536 : Int)) else false then bif decide ((1 : Int) ≤ d1) then decide (d1 ≤ n1) else false else false then bif bif bif decide ((1 : Int) ≤ s1) then decide (s1 ≤ (1048576 : Int)) else false then bif decide ((1 : Int) ≤ a1) then decide (a1 ≤ (16777216 : Int)) else false else false then bif decide ((1 : Int) ≤ j1) then decide (j1 ≤ (1048576 : Int)) else false else false else false then decide (l1 ≤ h1) else false then decide (l1 ≥ (-1048576 : Int)) else false then decide (h1 ≤ (1048576 : Int)) else false then false else bif !bif bif bif bif bif bif decide ((1 : Int) ≤ n2) then decide (n2 ≤ (65536 : Int)) else false then bif decide ((1 : Int) ≤ d2) then decide (d2 ≤ n2) else false else false then bif bif bif decide ((1 : Int) ≤ s2) then decide (s2 ≤ (1048576 : Int)) else false then bif decide ((1 : Int) ≤ a2) then decide (a2 ≤ (16777216 : Int)) else false else false then bif decide ((1 : Int) ≤ j2) then decide (j2 ≤ (1048576 : Int)) else false else false else false then decide (l2 ≤ h2) else false then decide (l2 ≥ (-1048576 : Int)) else false then decide (h2 ≤ (1048576 : Int)) else false then false else bif !bif bif bif bif bif bif decide ((1 : Int) ≤ n3) then decide (n3 ≤ (65536 : Int)) else false then bif decide ((1 : Int) ≤ d3) then decide (d3 ≤ n3) else false else false then bif bif bif decide ((1 : Int) ≤ s3) then decide (s3 ≤ (1048576 : Int)) else false then bif decide ((1 : Int) ≤ a3) then decide (a3 ≤ (16777216 : Int)) else false else false then bif decide ((1 : Int) ≤ j3) then decide (j3 ≤ (1048576 : Int)) else false else false else false then decide (l3 ≤ h3) else false then decide (l3 ≥ (-1048576 : Int)) else false then decide (h3 ≤ (1048576 : Int)) else false then false else bif decide ((1 : Int) ≤ tk) then decide (tk ≤ (1048576 : Int)) else false
set_option maxHeartbeats 4000000 in
theorem kv_val (n0 : Int) (d0 : Int) (s0 : Int) (a0 : Int) (j0 : Int) (l0 : Int) (h0 : Int) (n1 : Int) (d1 : Int) (s1 : Int) (a1 : Int) (j1 : Int) (l1 : Int) (h1 : Int) (n2 : Int) (d2 : Int) (s2 : Int) (a2 : Int) (j2 : Int) (l2 : Int) (h2 : Int) (n3 : Int) (d3 : Int) (s3 : Int) (a3 : Int) (j3 : Int) (l3 : Int) (h3 : Int) (xy : Bool) (tk : Int) : (.ret (.one (.v false (.bool (bif !bif bif bif bif bif bif decide ((1 : Int) ≤ n0) then decide (n0 ≤ (65536 : Int)) else false then bif decide ((1 : Int) ≤ d0) then decide (d0 ≤ n0) else false else false then bif bif bif decide ((1 : Int) ≤ s0) then decide (s0 ≤ (1048576 : Int)) else false then bif decide ((1 : Int) ≤ a0) then decide (a0 ≤ (16777216 : Int)) else false else false then bif decide ((1 : Int) ≤ j0) then decide (j0 ≤ (1048576 : Int)) else false else false else false then decide (l0 ≤ h0) else false then decide (l0 ≥ (-1048576 : Int)) else false then decide (h0 ≤ (1048576 : Int)) else false then false else bif !bif bif bif bif bif bif decide ((1 : Int) ≤ n1) then decide (n1 ≤ (65536 : Int)) else false then bif decide ((1 : Int) ≤ d1) then decide (d1 ≤ n1) else false else false then bif bif bif decide ((1 : Int) ≤ s1) then decide (s1 ≤ (1048576 : Int)) else false then bif decide ((1 : Int) ≤ a1) then decide (a1 ≤ (16777216 : Int)) else false else false then bif decide ((1 : Int) ≤ j1) then decide (j1 ≤ (1048576 : Int)) else false else false else false then decide (l1 ≤ h1) else false then decide (l1 ≥ (-1048576 : Int)) else false then decide (h1 ≤ (1048576 : Int)) else false then false else bif !bif bif bif bif bif bif decide ((1 : Int) ≤ n2) then decide (n2 ≤ (65536 : Int)) else false then bif decide ((1 : Int) ≤ d2) then decide (d2 ≤ n2) else false else false then bif bif bif decide ((1 : Int) ≤ s2) then decide (s2 ≤ (1048576 : Int)) else false then bif decide ((1 : Int) ≤ a2) then decide (a2 ≤ (16777216 : Int)) else false else false then bif decide ((1 : Int) ≤ j2) then decide (j2 ≤ (1048576 : Int)) else false else false else false then decide (l2 ≤ h2) else false then decide (l2 ≥ (-1048576 : Int)) else false then decide (h2 ≤ (1048576 : Int)) else false then false else bif !bif bif bif bif bif bif decide ((1 : Int) ≤ n3) then decide (n3 ≤ (65536 : Int)) else false then bif decide ((1 : Int) ≤ d3) then decide (d3 ≤ n3) else false else false then bif bif bif decide ((1 : Int) ≤ s3) then decide (s3 ≤ (1048576 : Int)) else false then bif decide ((1 : Int) ≤ a3) then decide (a3 ≤ (16777216 : Int)) else false else false then bif decide ((1 : Int) ≤ j3) then decide (j3 ≤ (1048576 : Int)) else false else false else false then decide (l3 ≤ h3) else false then decide (l3 ≥ (-1048576 : Int)) else false then decide (h3 ≤ (1048576 : Int)) else false then false else bif decide ((1 : Int) ≤ tk) then decide (tk ≤ (1048576 : Int)) else false)))) : Tr AV).val = some (.one (.v false (.bool (kv0 n0 d0 s0 a0 j0 l0 h0 n1 d1 s1 a1 j1 l1 h1 n2 d2 s2 a2 j2 l2 h2 n3 d3 s3 a3 j3 l3 h3 xy tk)))) := by
  show some _ = some _
  first | rfl | simp only [cond_same, ite_self, kv0]
def kv_g : List AV → Option (Tr AV)
  | [.ag [.v _ (.int .i64 n0), .v _ (.int .i64 d0), .v _ (.int .i64 s0), .v _ (.int .i64 a0), .v _ (.int .i64 j0), .v _ (.int .i64 l0), .v _ (.int .i64 h0), .v _ (.int .i64 n1), .v _ (.int .i64 d1), .v _ (.int .i64 s1), .v _ (.int .i64 a1), .v _ (.int .i64 j1), .v _ (.int .i64 l1), .v _ (.int .i64 h1), .v _ (.int .i64 n2), .v _ (.int .i64 d2), .v _ (.int .i64 s2), .v _ (.int .i64 a2), .v _ (.int .i64 j2), .v _ (.int .i64 l2), .v _ (.int .i64 h2), .v _ (.int .i64 n3), .v _ (.int .i64 d3), .v _ (.int .i64 s3), .v _ (.int .i64 a3), .v _ (.int .i64 j3), .v _ (.int .i64 l3), .v _ (.int .i64 h3), .v _ (.bool xy), .v _ (.int .i64 tk)]] => some (.ret (.one (.v false (.bool (kv0 n0 d0 s0 a0 j0 l0 h0 n1 d1 s1 a1 j1 l1 h1 n2 d2 s2 a2 j2 l2 h2 n3 d3 s3 a3 j3 l3 h3 xy tk)))))
  | _ => none
theorem kv_ok : FunOK Try.prog 39 kv_g := by
  refine fun_ok (by kernel_rfl) (lmA_S6_ok) (L0_ok _) 7 (On := (opens [])) (fun args t h => ?_)
  unfold kv_g at h
  split at h
  · rename_i _ n0 _ d0 _ s0 _ a0 _ j0 _ l0 _ h0 _ n1 _ d1 _ s1 _ a1 _ j1 _ l1 _ h1 _ n2 _ d2 _ s2 _ a2 _ j2 _ l2 _ h2 _ n3 _ d3 _ s3 _ a3 _ j3 _ l3 _ h3 _ xy _ tk
    simp only [Option.some.injEq] at h
    subst h
    refine ⟨[.ag [.v false (.int .i64 n0), .v false (.int .i64 d0), .v false (.int .i64 s0), .v false (.int .i64 a0), .v false (.int .i64 j0), .v false (.int .i64 l0), .v false (.int .i64 h0), .v false (.int .i64 n1), .v false (.int .i64 d1), .v false (.int .i64 s1), .v false (.int .i64 a1), .v false (.int .i64 j1), .v false (.int .i64 l1), .v false (.int .i64 h1), .v false (.int .i64 n2), .v false (.int .i64 d2), .v false (.int .i64 s2), .v false (.int .i64 a2), .v false (.int .i64 j2), .v false (.int .i64 l2), .v false (.int .i64 h2), .v false (.int .i64 n3), .v false (.int .i64 d3), .v false (.int .i64 s3), .v false (.int .i64 a3), .v false (.int .i64 j3), .v false (.int .i64 l3), .v false (.int .i64 h3), .v false (.bool xy), .v false (.int .i64 tk)]], rfl, fun fr w us h => h, fun r hr => ?_⟩
    simp only [Tr.val, Option.some.injEq] at hr
    subst hr
    rw [kv_tree]
    exact kv_val n0 d0 s0 a0 j0 l0 h0 n1 d1 s1 a1 j1 l1 h1 n2 d2 s2 a2 j2 l2 h2 n3 d3 s3 a3 j3 l3 h3 xy tk
  · cases h
def lmA_S7 : Sums := addS 39 kv_g lmA_S6
theorem lmA_S7_ok : SumOK Try.prog lmA_S7 := addS_ok (kv_ok) (lmA_S6_ok)
set_option maxRecDepth 100000 in
theorem rkv_tree (n0 : Int) (d0 : Int) (s0 : Int) (a0 : Int) (j0 : Int) (l0 : Int) (h0 : Int) (n1 : Int) (d1 : Int) (s1 : Int) (a1 : Int) (j1 : Int) (l1 : Int) (h1 : Int) (n2 : Int) (d2 : Int) (s2 : Int) (a2 : Int) (j2 : Int) (l2 : Int) (h2 : Int) (n3 : Int) (d3 : Int) (s3 : Int) (a3 : Int) (j3 : Int) (l3 : Int) (h3 : Int) (xy : Bool) (tk : Int) : evalF Try.prog lmA_S7 (opens []) L0 9 44 [.ag [.v false (.int .i64 n0), .v false (.int .i64 d0), .v false (.int .i64 s0), .v false (.int .i64 a0), .v false (.int .i64 j0), .v false (.int .i64 l0), .v false (.int .i64 h0), .v false (.int .i64 n1), .v false (.int .i64 d1), .v false (.int .i64 s1), .v false (.int .i64 a1), .v false (.int .i64 j1), .v false (.int .i64 l1), .v false (.int .i64 h1), .v false (.int .i64 n2), .v false (.int .i64 d2), .v false (.int .i64 s2), .v false (.int .i64 a2), .v false (.int .i64 j2), .v false (.int .i64 l2), .v false (.int .i64 h2), .v false (.int .i64 n3), .v false (.int .i64 d3), .v false (.int .i64 s3), .v false (.int .i64 a3), .v false (.int .i64 j3), .v false (.int .i64 l3), .v false (.int .i64 h3), .v false (.bool xy), .v false (.int .i64 tk)]] = .ret (.one (.v false (.bool (bif bif bif bif bif bif bif bif bif bif decide (n0 < (1 : Int)) then true else decide (n0 > (65536 : Int)) then true else decide (d0 < (1 : Int)) then true else decide (d0 > n0) then true else decide (s0 < (1 : Int)) then true else decide (s0 > (1048576 : Int)) then true else decide (a0 < (1 : Int)) then true else decide (a0 > (16777216 : Int)) then true else decide (j0 < (1 : Int)) then true else decide (j0 > (1048576 : Int)) then false else bif bif bif decide (l0 > h0) then true else decide (l0 < (-1048576 : Int)) then true else decide (h0 > (1048576 : Int)) then false else bif bif bif bif bif bif bif bif bif bif decide (n1 < (1 : Int)) then true else decide (n1 > (65536 : Int)) then true else decide (d1 < (1 : Int)) then true else decide (d1 > n1) then true else decide (s1 < (1 : Int)) then true else decide (s1 > (1048576 : Int)) then true else decide (a1 < (1 : Int)) then true else decide (a1 > (16777216 : Int)) then true else decide (j1 < (1 : Int)) then true else decide (j1 > (1048576 : Int)) then false else bif bif bif decide (l1 > h1) then true else decide (l1 < (-1048576 : Int)) then true else decide (h1 > (1048576 : Int)) then false else bif bif bif bif bif bif bif bif bif bif decide (n2 < (1 : Int)) then true else decide (n2 > (65536 : Int)) then true else decide (d2 < (1 : Int)) then true else decide (d2 > n2) then true else decide (s2 < (1 : Int)) then true else decide (s2 > (1048576 : Int)) then true else decide (a2 < (1 : Int)) then true else decide (a2 > (16777216 : Int)) then true else decide (j2 < (1 : Int)) then true else decide (j2 > (1048576 : Int)) then false else bif bif bif decide (l2 > h2) then true else decide (l2 < (-1048576 : Int)) then true else decide (h2 > (1048576 : Int)) then false else bif bif bif bif bif bif bif bif bif bif decide (n3 < (1 : Int)) then true else decide (n3 > (65536 : Int)) then true else decide (d3 < (1 : Int)) then true else decide (d3 > n3) then true else decide (s3 < (1 : Int)) then true else decide (s3 > (1048576 : Int)) then true else decide (a3 < (1 : Int)) then true else decide (a3 > (16777216 : Int)) then true else decide (j3 < (1 : Int)) then true else decide (j3 > (1048576 : Int)) then false else bif bif bif decide (l3 > h3) then true else decide (l3 < (-1048576 : Int)) then true else decide (h3 > (1048576 : Int)) then false else bif decide (tk ≥ (1 : Int)) then decide (tk ≤ (1048576 : Int)) else false)))) := by kernel_rfl
set_option maxHeartbeats 4000000 in
theorem rkv_val (n0 : Int) (d0 : Int) (s0 : Int) (a0 : Int) (j0 : Int) (l0 : Int) (h0 : Int) (n1 : Int) (d1 : Int) (s1 : Int) (a1 : Int) (j1 : Int) (l1 : Int) (h1 : Int) (n2 : Int) (d2 : Int) (s2 : Int) (a2 : Int) (j2 : Int) (l2 : Int) (h2 : Int) (n3 : Int) (d3 : Int) (s3 : Int) (a3 : Int) (j3 : Int) (l3 : Int) (h3 : Int) (xy : Bool) (tk : Int) : (.ret (.one (.v false (.bool (bif bif bif bif bif bif bif bif bif bif decide (n0 < (1 : Int)) then true else decide (n0 > (65536 : Int)) then true else decide (d0 < (1 : Int)) then true else decide (d0 > n0) then true else decide (s0 < (1 : Int)) then true else decide (s0 > (1048576 : Int)) then true else decide (a0 < (1 : Int)) then true else decide (a0 > (16777216 : Int)) then true else decide (j0 < (1 : Int)) then true else decide (j0 > (1048576 : Int)) then false else bif bif bif decide (l0 > h0) then true else decide (l0 < (-1048576 : Int)) then true else decide (h0 > (1048576 : Int)) then false else bif bif bif bif bif bif bif bif bif bif decide (n1 < (1 : Int)) then true else decide (n1 > (65536 : Int)) then true else decide (d1 < (1 : Int)) then true else decide (d1 > n1) then true else decide (s1 < (1 : Int)) then true else decide (s1 > (1048576 : Int)) then true else decide (a1 < (1 : Int)) then true else decide (a1 > (16777216 : Int)) then true else decide (j1 < (1 : Int)) then true else decide (j1 > (1048576 : Int)) then false else bif bif bif decide (l1 > h1) then true else decide (l1 < (-1048576 : Int)) then true else decide (h1 > (1048576 : Int)) then false else bif bif bif bif bif bif bif bif bif bif decide (n2 < (1 : Int)) then true else decide (n2 > (65536 : Int)) then true else decide (d2 < (1 : Int)) then true else decide (d2 > n2) then true else decide (s2 < (1 : Int)) then true else decide (s2 > (1048576 : Int)) then true else decide (a2 < (1 : Int)) then true else decide (a2 > (16777216 : Int)) then true else decide (j2 < (1 : Int)) then true else decide (j2 > (1048576 : Int)) then false else bif bif bif decide (l2 > h2) then true else decide (l2 < (-1048576 : Int)) then true else decide (h2 > (1048576 : Int)) then false else bif bif bif bif bif bif bif bif bif bif decide (n3 < (1 : Int)) then true else decide (n3 > (65536 : Int)) then true else decide (d3 < (1 : Int)) then true else decide (d3 > n3) then true else decide (s3 < (1 : Int)) then true else decide (s3 > (1048576 : Int)) then true else decide (a3 < (1 : Int)) then true else decide (a3 > (16777216 : Int)) then true else decide (j3 < (1 : Int)) then true else decide (j3 > (1048576 : Int)) then false else bif bif bif decide (l3 > h3) then true else decide (l3 < (-1048576 : Int)) then true else decide (h3 > (1048576 : Int)) then false else bif decide (tk ≥ (1 : Int)) then decide (tk ≤ (1048576 : Int)) else false)))) : Tr AV).val = some (.one (.v false (.bool (kv0 n0 d0 s0 a0 j0 l0 h0 n1 d1 s1 a1 j1 l1 h1 n2 d2 s2 a2 j2 l2 h2 n3 d3 s3 a3 j3 l3 h3 xy tk)))) := by
  refine congrArg (fun b => some (AV.one (.v false (.bool b)))) ?_
  unfold kv0
  rw [Bool.eq_iff_iff]
  simp only [Bool.cond_eq_ite]
  constructor
  · intro h
    simp at h ⊢
    omega
  · intro h
    simp at h ⊢
    omega
def rkv_g : List AV → Option (Tr AV)
  | [.ag [.v _ (.int .i64 n0), .v _ (.int .i64 d0), .v _ (.int .i64 s0), .v _ (.int .i64 a0), .v _ (.int .i64 j0), .v _ (.int .i64 l0), .v _ (.int .i64 h0), .v _ (.int .i64 n1), .v _ (.int .i64 d1), .v _ (.int .i64 s1), .v _ (.int .i64 a1), .v _ (.int .i64 j1), .v _ (.int .i64 l1), .v _ (.int .i64 h1), .v _ (.int .i64 n2), .v _ (.int .i64 d2), .v _ (.int .i64 s2), .v _ (.int .i64 a2), .v _ (.int .i64 j2), .v _ (.int .i64 l2), .v _ (.int .i64 h2), .v _ (.int .i64 n3), .v _ (.int .i64 d3), .v _ (.int .i64 s3), .v _ (.int .i64 a3), .v _ (.int .i64 j3), .v _ (.int .i64 l3), .v _ (.int .i64 h3), .v _ (.bool xy), .v _ (.int .i64 tk)]] => some (.ret (.one (.v false (.bool (kv0 n0 d0 s0 a0 j0 l0 h0 n1 d1 s1 a1 j1 l1 h1 n2 d2 s2 a2 j2 l2 h2 n3 d3 s3 a3 j3 l3 h3 xy tk)))))
  | _ => none
theorem rkv_ok : FunOK Try.prog 44 rkv_g := by
  refine fun_ok (by kernel_rfl) (lmA_S7_ok) (L0_ok _) 9 (On := (opens [])) (fun args t h => ?_)
  unfold rkv_g at h
  split at h
  · rename_i _ n0 _ d0 _ s0 _ a0 _ j0 _ l0 _ h0 _ n1 _ d1 _ s1 _ a1 _ j1 _ l1 _ h1 _ n2 _ d2 _ s2 _ a2 _ j2 _ l2 _ h2 _ n3 _ d3 _ s3 _ a3 _ j3 _ l3 _ h3 _ xy _ tk
    simp only [Option.some.injEq] at h
    subst h
    refine ⟨[.ag [.v false (.int .i64 n0), .v false (.int .i64 d0), .v false (.int .i64 s0), .v false (.int .i64 a0), .v false (.int .i64 j0), .v false (.int .i64 l0), .v false (.int .i64 h0), .v false (.int .i64 n1), .v false (.int .i64 d1), .v false (.int .i64 s1), .v false (.int .i64 a1), .v false (.int .i64 j1), .v false (.int .i64 l1), .v false (.int .i64 h1), .v false (.int .i64 n2), .v false (.int .i64 d2), .v false (.int .i64 s2), .v false (.int .i64 a2), .v false (.int .i64 j2), .v false (.int .i64 l2), .v false (.int .i64 h2), .v false (.int .i64 n3), .v false (.int .i64 d3), .v false (.int .i64 s3), .v false (.int .i64 a3), .v false (.int .i64 j3), .v false (.int .i64 l3), .v false (.int .i64 h3), .v false (.bool xy), .v false (.int .i64 tk)]], rfl, fun fr w us h => h, fun r hr => ?_⟩
    simp only [Tr.val, Option.some.injEq] at hr
    subst hr
    rw [rkv_tree]
    exact rkv_val n0 d0 s0 a0 j0 l0 h0 n1 d1 s1 a1 j1 l1 h1 n2 d2 s2 a2 j2 l2 h2 n3 d3 s3 a3 j3 l3 h3 xy tk
  · cases h
def lmA_S8 : Sums := addS 44 rkv_g lmA_S7
theorem lmA_S8_ok : SumOK Try.prog lmA_S8 := addS_ok (rkv_ok) (lmA_S7_ok)
def inR (n : Int) : Bool := decide (-9223372036854775808 ≤ n) && decide (n ≤ 9223372036854775807)
def lea (n a b c : Int) : Int := bif (quo (a * b) c).2 == 0 && decide ((quo (a * b) c).1 < n) then (quo (a * b) c).1 else n
def ab (n : Int) : Int := if n < 0 then 0 - n else n
def inS (n : Int) : Bool := decide (-4611686018427387904 ≤ n) && decide (n ≤ 4611686018427387904)
theorem lea_zero (n a b : Int) : lea n a b 0 = n := by
  have : quo (a * b) 0 = (0, 4) := rfl
  unfold lea; rw [this]; rfl
theorem inR_iff {n : Int} : inR n = true ↔ -9223372036854775808 ≤ n ∧ n ≤ 9223372036854775807 := by simp [inR]
def md_g : List AV → Option (Tr AV)
  | [.one (.v _ (.int .i64 a)), .one (.v _ (.int .i64 b)), .one (.v _ (.int .i64 c))] => some (.br (inR a && inR b && inR c) (.ret (.tup [(false, [.v false (.int .i64 (quo (a * b) c).1)]), (false, [.v false (.int .i64 (quo (a * b) c).2)])])) (.bad 900))
  | _ => none
theorem md_ok : FunOK Try.prog 60 md_g := by
  refine fun_of_calls fun args t h r hr fr w us hus => ?_
  unfold md_g at h
  split at h
  · rename_i _ a _ b _ c
    simp only [Option.some.injEq] at h
    subst h
    obtain ⟨hc, hr⟩ := br_bad hr
    simp only [Tr.val, Option.some.injEq] at hr
    subst hr
    obtain ⟨_, _, rfl, e0, _, _, rfl, e1, _, _, rfl, e2, rfl⟩ := hus
    cases e0; cases e1; cases e2
    exact ⟨_, (num_MulDiv a b c (by simp [inR] at hc; omega) (by simp [inR] at hc; omega) (by simp [inR] at hc; omega) (by simp [inR] at hc; omega) (by simp [inR] at hc; omega) (by simp [inR] at hc; omega) w).mono fun e w' h => ⟨h.1, h.2⟩, fun _ _ => tup2_is, rfl⟩
  · cases h
def lmA_S9 : Sums := addS 60 md_g lmA_S8
theorem lmA_S9_ok : SumOK Try.prog lmA_S9 := addS_ok (md_ok) (lmA_S8_ok)
def rmd_g : List AV → Option (Tr AV)
  | [.one (.v _ (.int .i64 a)), .one (.v _ (.int .i64 b)), .one (.v _ (.int .i64 c))] => some (.br (inR a && inR b && inR c) (.ret (.tup [(false, [.v false (.int .i64 (quo (a * b) c).1)]), (false, [.v false (.int .i64 (quo (a * b) c).2)])])) (.bad 900))
  | _ => none
theorem rmd_ok : FunOK Try.prog 50 rmd_g := by
  refine fun_of_calls fun args t h r hr fr w us hus => ?_
  unfold rmd_g at h
  split at h
  · rename_i _ a _ b _ c
    simp only [Option.some.injEq] at h
    subst h
    obtain ⟨hc, hr⟩ := br_bad hr
    simp only [Tr.val, Option.some.injEq] at hr
    subst hr
    obtain ⟨_, _, rfl, e0, _, _, rfl, e1, _, _, rfl, e2, rfl⟩ := hus
    cases e0; cases e1; cases e2
    exact ⟨_, (ref_MulDiv a b c (by simp [inR] at hc; omega) (by simp [inR] at hc; omega) (by simp [inR] at hc; omega) (by simp [inR] at hc; omega) (by simp [inR] at hc; omega) (by simp [inR] at hc; omega) w).mono fun e w' h => ⟨h.1, h.2 ▸ Ext.refl _⟩, fun _ _ => tup2_is, rfl⟩
  · cases h
def lmA_S10 : Sums := addS 50 rmd_g lmA_S9
theorem lmA_S10_ok : SumOK Try.prog lmA_S10 := addS_ok (rmd_ok) (lmA_S9_ok)
set_option maxRecDepth 100000 in
theorem sz_tree (n : Int) : evalF Try.prog lmA_S10 (opens []) L0 9 43 [.one (.v false (.int .i64 n))] = .ret (.one (.v false (.int .i64 (if IntKind.wrap IntKind.i64 ((0 : Int) - n) > n then IntKind.wrap IntKind.i64 ((0 : Int) - n) else n)))) := by kernel_rfl
theorem sz_val (n : Int) (hc : (inS n) = true) : (.ret (.one (.v false (.int .i64 (if IntKind.wrap IntKind.i64 ((0 : Int) - n) > n then IntKind.wrap IntKind.i64 ((0 : Int) - n) else n)))) : Tr AV).val = some (.one (.v false (.int .i64 (ab n)))) := by
  simp [inS] at hc
  have e : IntKind.wrap IntKind.i64 ((0 : Int) - n) = 0 - n := IntWalk.i64_in _ ⟨by omega, by omega⟩
  rw [e]
  refine congrArg (fun b => some (AV.one (.v false (.int .i64 b)))) ?_
  unfold ab
  first | (split <;> split <;> omega) | (by_cases h : n < 0 <;> simp [h])
def sz_g : List AV → Option (Tr AV)
  | [.one (.v _ (.int .i64 n))] => some (.br (inS n) (.ret (.one (.v false (.int .i64 (ab n))))) (.bad 900))
  | _ => none
theorem sz_ok : FunOK Try.prog 43 sz_g := by
  refine fun_ok (by kernel_rfl) (lmA_S10_ok) (L0_ok _) 9 (On := (opens [])) (fun args t h => ?_)
  unfold sz_g at h
  split at h
  · rename_i _ n
    simp only [Option.some.injEq] at h
    subst h
    refine ⟨[.one (.v false (.int .i64 n))], rfl, fun fr w us h => h, fun r hr => ?_⟩
    obtain ⟨hc, hr⟩ := br_bad hr
    simp only [Tr.val, Option.some.injEq] at hr
    subst hr
    rw [sz_tree]
    exact sz_val n hc
  · cases h
def lmA_S11 : Sums := addS 43 sz_g lmA_S10
theorem lmA_S11_ok : SumOK Try.prog lmA_S11 := addS_ok (sz_ok) (lmA_S10_ok)
set_option maxRecDepth 100000 in
theorem rsz_tree (n : Int) : evalF Try.prog lmA_S11 (opens []) L0 9 47 [.one (.v false (.int .i64 n))] = .ret (.one (.v false (.int .i64 (bif decide (n < (0 : Int)) then IntKind.wrap IntKind.i64 ((0 : Int) - n) else n)))) := by kernel_rfl
theorem rsz_val (n : Int) (hc : (inS n) = true) : (.ret (.one (.v false (.int .i64 (bif decide (n < (0 : Int)) then IntKind.wrap IntKind.i64 ((0 : Int) - n) else n)))) : Tr AV).val = some (.one (.v false (.int .i64 (ab n)))) := by
  simp [inS] at hc
  have e : IntKind.wrap IntKind.i64 ((0 : Int) - n) = 0 - n := IntWalk.i64_in _ ⟨by omega, by omega⟩
  rw [e]
  refine congrArg (fun b => some (AV.one (.v false (.int .i64 b)))) ?_
  unfold ab
  first | (split <;> split <;> omega) | (by_cases h : n < 0 <;> simp [h])
def rsz_g : List AV → Option (Tr AV)
  | [.one (.v _ (.int .i64 n))] => some (.br (inS n) (.ret (.one (.v false (.int .i64 (ab n))))) (.bad 900))
  | _ => none
theorem rsz_ok : FunOK Try.prog 47 rsz_g := by
  refine fun_ok (by kernel_rfl) (lmA_S11_ok) (L0_ok _) 9 (On := (opens [])) (fun args t h => ?_)
  unfold rsz_g at h
  split at h
  · rename_i _ n
    simp only [Option.some.injEq] at h
    subst h
    refine ⟨[.one (.v false (.int .i64 n))], rfl, fun fr w us h => h, fun r hr => ?_⟩
    obtain ⟨hc, hr⟩ := br_bad hr
    simp only [Tr.val, Option.some.injEq] at hr
    subst hr
    rw [rsz_tree]
    exact rsz_val n hc
  · cases h
def lmA_S12 : Sums := addS 47 rsz_g lmA_S11
theorem lmA_S12_ok : SumOK Try.prog lmA_S12 := addS_ok (rsz_ok) (lmA_S11_ok)
set_option maxRecDepth 100000 in
theorem le_tree (n : Int) (a : Int) (b : Int) (c : Int) : evalF Try.prog lmA_S12 (opens []) L0 9 42 [.one (.v false (.int .i64 n)), .one (.v false (.int .i64 a)), .one (.v false (.int .i64 b)), .one (.v false (.int .i64 c))] = .br ((inR a && inR b && inR c)) (.ret (.one (.v false (.int .i64 (bif Prod.snd (quo (a * b) c) != (0 : Int) then n else if Prod.fst (quo (a * b) c) < n then Prod.fst (quo (a * b) c) else n))))) (.bad 116) := by kernel_rfl
theorem le_val (n : Int) (a : Int) (b : Int) (c : Int) (hc : (inR a && inR b && inR c) = true) : (.br ((inR a && inR b && inR c)) (.ret (.one (.v false (.int .i64 (bif Prod.snd (quo (a * b) c) != (0 : Int) then n else if Prod.fst (quo (a * b) c) < n then Prod.fst (quo (a * b) c) else n))))) (.bad 116) : Tr AV).val = some (.one (.v false (.int .i64 (lea n a b c)))) := by
  show cond _ _ _ = _
  simp only [hc, Bool.true_and, cond_true]
  refine congrArg (fun b => some (AV.one (.v false (.int .i64 b)))) ?_
  unfold lea
  generalize quo (a * b) c = q
  obtain ⟨q1, q2⟩ := q
  by_cases e : q2 = 0
  · by_cases l : q1 < n <;> simp [e, l]
  · have hb : (q2 == 0) = false := by simpa using e
    have hb' : (q2 != 0) = true := by simpa using e
    by_cases l : q1 < n <;> simp [hb, hb', l]
def le_g : List AV → Option (Tr AV)
  | [.one (.v _ (.int .i64 n)), .one (.v _ (.int .i64 a)), .one (.v _ (.int .i64 b)), .one (.v _ (.int .i64 c))] => some (.br (inR a && inR b && inR c) (.ret (.one (.v false (.int .i64 (lea n a b c))))) (.bad 900))
  | _ => none
theorem le_ok : FunOK Try.prog 42 le_g := by
  refine fun_ok (by kernel_rfl) (lmA_S12_ok) (L0_ok _) 9 (On := (opens [])) (fun args t h => ?_)
  unfold le_g at h
  split at h
  · rename_i _ n _ a _ b _ c
    simp only [Option.some.injEq] at h
    subst h
    refine ⟨[.one (.v false (.int .i64 n)), .one (.v false (.int .i64 a)), .one (.v false (.int .i64 b)), .one (.v false (.int .i64 c))], rfl, fun fr w us h => h, fun r hr => ?_⟩
    obtain ⟨hc, hr⟩ := br_bad hr
    simp only [Tr.val, Option.some.injEq] at hr
    subst hr
    rw [le_tree]
    exact le_val n a b c hc
  · cases h
def lmA_S13 : Sums := addS 42 le_g lmA_S12
theorem lmA_S13_ok : SumOK Try.prog lmA_S13 := addS_ok (le_ok) (lmA_S12_ok)
set_option maxRecDepth 100000 in
theorem rle_tree (n : Int) (a : Int) (b : Int) (c : Int) : evalF Try.prog lmA_S13 (opens []) L0 9 46 [.one (.v false (.int .i64 n)), .one (.v false (.int .i64 a)), .one (.v false (.int .i64 b)), .one (.v false (.int .i64 c))] = .br ((inR a && inR b && inR c)) (.ret (.one (.v false (.int .i64 (bif bif Prod.snd (quo (a * b) c) == (0 : Int) then decide (Prod.fst (quo (a * b) c) < n) else false then Prod.fst (quo (a * b) c) else n))))) (.bad 116) := by kernel_rfl
theorem rle_val (n : Int) (a : Int) (b : Int) (c : Int) (hc : (inR a && inR b && inR c) = true) : (.br ((inR a && inR b && inR c)) (.ret (.one (.v false (.int .i64 (bif bif Prod.snd (quo (a * b) c) == (0 : Int) then decide (Prod.fst (quo (a * b) c) < n) else false then Prod.fst (quo (a * b) c) else n))))) (.bad 116) : Tr AV).val = some (.one (.v false (.int .i64 (lea n a b c)))) := by
  show cond _ _ _ = _
  simp only [hc, Bool.true_and, cond_true]
  refine congrArg (fun b => some (AV.one (.v false (.int .i64 b)))) ?_
  unfold lea
  generalize quo (a * b) c = q
  obtain ⟨q1, q2⟩ := q
  by_cases e : q2 = 0
  · by_cases l : q1 < n <;> simp [e, l]
  · have hb : (q2 == 0) = false := by simpa using e
    have hb' : (q2 != 0) = true := by simpa using e
    by_cases l : q1 < n <;> simp [hb, hb', l]
def rle_g : List AV → Option (Tr AV)
  | [.one (.v _ (.int .i64 n)), .one (.v _ (.int .i64 a)), .one (.v _ (.int .i64 b)), .one (.v _ (.int .i64 c))] => some (.br (inR a && inR b && inR c) (.ret (.one (.v false (.int .i64 (lea n a b c))))) (.bad 900))
  | _ => none
theorem rle_ok : FunOK Try.prog 46 rle_g := by
  refine fun_ok (by kernel_rfl) (lmA_S13_ok) (L0_ok _) 9 (On := (opens [])) (fun args t h => ?_)
  unfold rle_g at h
  split at h
  · rename_i _ n _ a _ b _ c
    simp only [Option.some.injEq] at h
    subst h
    refine ⟨[.one (.v false (.int .i64 n)), .one (.v false (.int .i64 a)), .one (.v false (.int .i64 b)), .one (.v false (.int .i64 c))], rfl, fun fr w us h => h, fun r hr => ?_⟩
    obtain ⟨hc, hr⟩ := br_bad hr
    simp only [Tr.val, Option.some.injEq] at hr
    subst hr
    rw [rle_tree]
    exact rle_val n a b c hc
  · cases h
def lmA_S14 : Sums := addS 46 rle_g lmA_S13
theorem lmA_S14_ok : SumOK Try.prog lmA_S14 := addS_ok (rle_ok) (lmA_S13_ok)
end Go.Proofs.Ytnmjikaojoaaaaa
