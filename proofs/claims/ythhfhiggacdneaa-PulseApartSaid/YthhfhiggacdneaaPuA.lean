/-
  Layers 42, 44, 45: counts, blocks, squares, intervals.
-/
import Derived.Test.YthhfhiggacdneaaProg
import Derived.Test.YthhfhiggacdneaaFvX
import Derived.Test.YthhfhiggacdneaaFvZ
import Derived.Test.YthhfhiggacdneaaAut
import Derived.Test.YthhfhiggacdneaaPl
import Derived.Test.YthhfhiggacdneaaSqr
import Derived.Test.YthhfhiggacdneaaPuW
namespace Go.Proofs.Ythhfhiggacdneaa
open Go
def mx (x y : Int) : Int := if y > x then y else x
def dval (a b c d : Int) : Bool := decide (-16777216 ≤ a) && (decide (a ≤ 16777216) && (decide (-16777216 ≤ b) && (decide (b ≤ 16777216) && (decide (-16777216 ≤ c) && (decide (c ≤ 16777216) && (decide (-16777216 ≤ d) && (decide (d ≤ 16777216) && !(a == 0 && (b == 0 && (c == 0 && d == 0))))))))))
def dom (c0 c1 c2 c3 : Int) : Int := if dval c0 c1 c2 c3 = true then mx (mx (mx (mx (mx (mx (mx (mx 0 c0) (0 - c0)) c1) (0 - c1)) c2) (0 - c2)) c3) (0 - c3) else 0
def bval (a b c d ac en cr ex : Int) : Bool := dval a b c d && (decide (1 ≤ ac) && (decide (ac ≤ 16777216) && (decide (1 ≤ cr) && (decide (cr ≤ 1099511627776) && (decide (0 ≤ en) && (decide (en ≤ cr) && (decide (0 ≤ ex) && decide (ex ≤ cr))))))))
def sq (a b c d ac en cr ex i : Int) : Int := bif bval a b c d ac en cr ex && (decide (1 ≤ i) && decide (i ≤ dom a b c d)) then min cr (min (en + 2 * ac * i) (ex + 2 * ac * (dom a b c d + 1 - i))) else 0
theorem mx_assoc (a b c : Int) : mx a (mx b c) = mx (mx a b) c := by
  unfold mx; repeat' split
  all_goals omega
theorem mx_le {a b k : Int} (h : a ≤ k) (g : b ≤ k) : mx a b ≤ k := by unfold mx; split <;> omega
theorem le_mx (a b : Int) : a ≤ mx a b ∧ b ≤ mx a b := by unfold mx; split <;> omega
theorem mx_or (a b : Int) : mx a b = a ∨ mx a b = b := by unfold mx; split <;> simp
theorem dv_iff {a b c d : Int} : dval a b c d = true ↔ (-16777216 ≤ a ∧ a ≤ 16777216) ∧ (-16777216 ≤ b ∧ b ≤ 16777216) ∧ (-16777216 ≤ c ∧ c ≤ 16777216) ∧ (-16777216 ≤ d ∧ d ≤ 16777216) ∧ ¬ (a = 0 ∧ b = 0 ∧ c = 0 ∧ d = 0) := by
  unfold dval
  constructor <;> intro h <;> simp at h ⊢ <;> omega
theorem dom_spec {a b c d : Int} (h : dval a b c d = true) : (a ≤ dom a b c d ∧ -a ≤ dom a b c d ∧ b ≤ dom a b c d ∧ -b ≤ dom a b c d ∧ c ≤ dom a b c d ∧ -c ≤ dom a b c d ∧ d ≤ dom a b c d ∧ -d ≤ dom a b c d) ∧ (dom a b c d = a ∨ dom a b c d = -a ∨ dom a b c d = b ∨ dom a b c d = -b ∨ dom a b c d = c ∨ dom a b c d = -c ∨ dom a b c d = d ∨ dom a b c d = -d) := by
  have hv := dv_iff.1 h
  unfold dom
  rw [if_pos h]
  have a1 := le_mx 0 a
  have o1 := mx_or 0 a
  generalize mx 0 a = x1 at *
  have a2 := le_mx x1 (0 - a)
  have o2 := mx_or x1 (0 - a)
  generalize mx x1 (0 - a) = x2 at *
  have a3 := le_mx x2 b
  have o3 := mx_or x2 b
  generalize mx x2 b = x3 at *
  have a4 := le_mx x3 (0 - b)
  have o4 := mx_or x3 (0 - b)
  generalize mx x3 (0 - b) = x4 at *
  have a5 := le_mx x4 c
  have o5 := mx_or x4 c
  generalize mx x4 c = x5 at *
  have a6 := le_mx x5 (0 - c)
  have o6 := mx_or x5 (0 - c)
  generalize mx x5 (0 - c) = x6 at *
  have a7 := le_mx x6 d
  have o7 := mx_or x6 d
  generalize mx x6 d = x7 at *
  have a8 := le_mx x7 (0 - d)
  have o8 := mx_or x7 (0 - d)
  generalize mx x7 (0 - d) = x8 at *
  refine ⟨by omega, ?_⟩
  have e1 : x2 = a ∨ x2 = -a := by omega
  have e2 : x4 = a ∨ x4 = -a ∨ x4 = b ∨ x4 = -b := by omega
  have e3 : x6 = a ∨ x6 = -a ∨ x6 = b ∨ x6 = -b ∨ x6 = c ∨ x6 = -c := by omega
  omega
theorem dom_in (a b c d : Int) : 0 ≤ dom a b c d ∧ dom a b c d ≤ 16777216 ∧ (dval a b c d = true → 1 ≤ dom a b c d) := by
  cases h : dval a b c d
  · have : dom a b c d = 0 := by unfold dom; rw [if_neg (by simp [h])]
    rw [this]; simp
  · have := dom_spec h
    have hv := dv_iff.1 h
    refine ⟨by omega, by omega, fun _ => by omega⟩
theorem neg_w {c : Int} (h : -16777216 ≤ c ∧ c ≤ 16777216) : IntKind.wrap IntKind.i64 ((0 : Int) - c) = 0 - c := IntWalk.i64_in _ (by omega)
theorem bv_iff {a b c d ac en cr ex : Int} : bval a b c d ac en cr ex = true ↔ dval a b c d = true ∧ 1 ≤ ac ∧ ac ≤ 16777216 ∧ 1 ≤ cr ∧ cr ≤ 1099511627776 ∧ 0 ≤ en ∧ en ≤ cr ∧ 0 ≤ ex ∧ ex ≤ cr := by
  unfold bval
  simp only [Bool.and_eq_true, decide_eq_true_eq]
set_option maxRecDepth 100000 in
theorem dv_tree (a : Int) (b : Int) (c : Int) (d : Int) : evalF Try.prog puW_S74 (opens [45]) L0 9 43 [.ag [.v false (.int .i64 a), .v false (.int .i64 b), .v false (.int .i64 c), .v false (.int .i64 d)]] = .ret (.one (.v false (.bool (bif bif decide (a < (-16777216 : Int)) then true else decide (a > (16777216 : Int)) then false else bif bif decide (b < (-16777216 : Int)) then true else decide (b > (16777216 : Int)) then false else bif bif decide (c < (-16777216 : Int)) then true else decide (c > (16777216 : Int)) then false else bif bif decide (d < (-16777216 : Int)) then true else decide (d > (16777216 : Int)) then false else !(a == (0 : Int) && (b == (0 : Int) && (c == (0 : Int) && (d == (0 : Int) && true)))))))) := by kernel_rfl
set_option maxHeartbeats 4000000 in
theorem dv_val (a : Int) (b : Int) (c : Int) (d : Int) : (.ret (.one (.v false (.bool (bif bif decide (a < (-16777216 : Int)) then true else decide (a > (16777216 : Int)) then false else bif bif decide (b < (-16777216 : Int)) then true else decide (b > (16777216 : Int)) then false else bif bif decide (c < (-16777216 : Int)) then true else decide (c > (16777216 : Int)) then false else bif bif decide (d < (-16777216 : Int)) then true else decide (d > (16777216 : Int)) then false else !(a == (0 : Int) && (b == (0 : Int) && (c == (0 : Int) && (d == (0 : Int) && true)))))))) : Tr AV).val = some (.one (.v false (.bool (dval a b c d)))) := by
  refine congrArg (fun b => some (AV.one (.v false (.bool b)))) ?_
  rw [Bool.eq_iff_iff]
  simp only [Bool.cond_eq_ite]
  unfold dval
  constructor <;> intro h <;> simp at h ⊢ <;> omega
noncomputable def dv_g : List AV → Option (Tr AV)
  | [.ag [.v _ (.int .i64 a), .v _ (.int .i64 b), .v _ (.int .i64 c), .v _ (.int .i64 d)]] => some (.ret (.one (.v false (.bool (dval a b c d)))))
  | _ => none
set_option maxHeartbeats 4000000 in
theorem dv_ok : FunOK Try.prog 43 dv_g := by
  refine fun_ok (by kernel_rfl) (puW_S74_ok) (L0_ok _) 9 (On := (opens [45])) (fun args t h => ?_)
  unfold dv_g at h
  split at h
  · rename_i _ a _ b _ c _ d
    simp only [Option.some.injEq] at h
    subst h
    refine ⟨[.ag [.v false (.int .i64 a), .v false (.int .i64 b), .v false (.int .i64 c), .v false (.int .i64 d)]], rfl, fun fr w us h => h, fun r hr => ?_⟩
    simp only [Tr.val, Option.some.injEq] at hr
    subst hr
    rw [dv_tree]
    exact dv_val a b c d
  · cases h
noncomputable def puA_S51 : Sums := addS 43 dv_g puW_S74
theorem puA_S51_ok : SumOK Try.prog puA_S51 := addS_ok (dv_ok) (puW_S74_ok)
set_option maxRecDepth 100000 in
theorem rdv_tree (a : Int) (b : Int) (c : Int) (d : Int) : evalF Try.prog puA_S51 (opens [45]) L0 9 36 [.ag [.v false (.int .i64 a), .v false (.int .i64 b), .v false (.int .i64 c), .v false (.int .i64 d)]] = .ret (.one (.v false (.bool (bif bif decide (a < (-16777216 : Int)) then true else decide (a > (16777216 : Int)) then false else bif bif decide (b < (-16777216 : Int)) then true else decide (b > (16777216 : Int)) then false else bif bif decide (c < (-16777216 : Int)) then true else decide (c > (16777216 : Int)) then false else bif bif decide (d < (-16777216 : Int)) then true else decide (d > (16777216 : Int)) then false else bif bif bif a != (0 : Int) then true else b != (0 : Int) then true else c != (0 : Int) then true else d != (0 : Int))))) := by kernel_rfl
set_option maxHeartbeats 4000000 in
theorem rdv_val (a : Int) (b : Int) (c : Int) (d : Int) : (.ret (.one (.v false (.bool (bif bif decide (a < (-16777216 : Int)) then true else decide (a > (16777216 : Int)) then false else bif bif decide (b < (-16777216 : Int)) then true else decide (b > (16777216 : Int)) then false else bif bif decide (c < (-16777216 : Int)) then true else decide (c > (16777216 : Int)) then false else bif bif decide (d < (-16777216 : Int)) then true else decide (d > (16777216 : Int)) then false else bif bif bif a != (0 : Int) then true else b != (0 : Int) then true else c != (0 : Int) then true else d != (0 : Int))))) : Tr AV).val = some (.one (.v false (.bool (dval a b c d)))) := by
  refine congrArg (fun b => some (AV.one (.v false (.bool b)))) ?_
  rw [Bool.eq_iff_iff]
  simp only [Bool.cond_eq_ite]
  unfold dval
  constructor <;> intro h <;> simp at h ⊢ <;> omega
noncomputable def rdv_g : List AV → Option (Tr AV)
  | [.ag [.v _ (.int .i64 a), .v _ (.int .i64 b), .v _ (.int .i64 c), .v _ (.int .i64 d)]] => some (.ret (.one (.v false (.bool (dval a b c d)))))
  | _ => none
set_option maxHeartbeats 4000000 in
theorem rdv_ok : FunOK Try.prog 36 rdv_g := by
  refine fun_ok (by kernel_rfl) (puA_S51_ok) (L0_ok _) 9 (On := (opens [45])) (fun args t h => ?_)
  unfold rdv_g at h
  split at h
  · rename_i _ a _ b _ c _ d
    simp only [Option.some.injEq] at h
    subst h
    refine ⟨[.ag [.v false (.int .i64 a), .v false (.int .i64 b), .v false (.int .i64 c), .v false (.int .i64 d)]], rfl, fun fr w us h => h, fun r hr => ?_⟩
    simp only [Tr.val, Option.some.injEq] at hr
    subst hr
    rw [rdv_tree]
    exact rdv_val a b c d
  · cases h
noncomputable def puA_S52 : Sums := addS 36 rdv_g puA_S51
theorem puA_S52_ok : SumOK Try.prog puA_S52 := addS_ok (rdv_ok) (puA_S51_ok)
set_option maxRecDepth 100000 in
theorem dm_tree (a : Int) (b : Int) (c : Int) (d : Int) : evalF Try.prog puA_S52 (opens [45]) L0 9 28 [.ag [.v false (.int .i64 a), .v false (.int .i64 b), .v false (.int .i64 c), .v false (.int .i64 d)]] = .ret (.one (.v false (.int .i64 (bif !dval a b c d then (0 : Int) else if IntKind.wrap IntKind.i64 ((0 : Int) - d) > if d > if IntKind.wrap IntKind.i64 ((0 : Int) - c) > if c > if IntKind.wrap IntKind.i64 ((0 : Int) - b) > if b > if IntKind.wrap IntKind.i64 ((0 : Int) - a) > if a > (0 : Int) then a else (0 : Int) then IntKind.wrap IntKind.i64 ((0 : Int) - a) else if a > (0 : Int) then a else (0 : Int) then b else if IntKind.wrap IntKind.i64 ((0 : Int) - a) > if a > (0 : Int) then a else (0 : Int) then IntKind.wrap IntKind.i64 ((0 : Int) - a) else if a > (0 : Int) then a else (0 : Int) then IntKind.wrap IntKind.i64 ((0 : Int) - b) else if b > if IntKind.wrap IntKind.i64 ((0 : Int) - a) > if a > (0 : Int) then a else (0 : Int) then IntKind.wrap IntKind.i64 ((0 : Int) - a) else if a > (0 : Int) then a else (0 : Int) then b else if IntKind.wrap IntKind.i64 ((0 : Int) - a) > if a > (0 : Int) then a else (0 : Int) then IntKind.wrap IntKind.i64 ((0 : Int) - a) else if a > (0 : Int) then a else (0 : Int) then c else if IntKind.wrap IntKind.i64 ((0 : Int) - b) > if b > if IntKind.wrap IntKind.i64 ((0 : Int) - a) > if a > (0 : Int) then a else (0 : Int) then IntKind.wrap IntKind.i64 ((0 : Int) - a) else if a > (0 : Int) then a else (0 : Int) then b else if IntKind.wrap IntKind.i64 ((0 : Int) - a) > if a > (0 : Int) then a else (0 : Int) then IntKind.wrap IntKind.i64 ((0 : Int) - a) else if a > (0 : Int) then a else (0 : Int) then IntKind.wrap IntKind.i64 ((0 : Int) - b) else if b > if IntKind.wrap IntKind.i64 ((0 : Int) - a) > if a > (0 : Int) then a else (0 : Int) then IntKind.wrap IntKind.i64 ((0 : Int) - a) else if a > (0 : Int) then a else (0 : Int) then b else if IntKind.wrap IntKind.i64 ((0 : Int) - a) > if a > (0 : Int) then a else (0 : Int) then IntKind.wrap IntKind.i64 ((0 : Int) - a) else if a > (0 : Int) then a else (0 : Int) then IntKind.wrap IntKind.i64 ((0 : Int) - c) else if c > if IntKind.wrap IntKind.i64 ((0 : Int) - b) > if b > if IntKind.wrap IntKind.i64 ((0 : Int) - a) > if a > (0 : Int) then a else (0 : Int) then IntKind.wrap IntKind.i64 ((0 : Int) - a) else if a > (0 : Int) then a else (0 : Int) then b else if IntKind.wrap IntKind.i64 ((0 : Int) - a) > if a > (0 : Int) then a else (0 : Int) then IntKind.wrap IntKind.i64 ((0 : Int) - a) else if a > (0 : Int) then a else (0 : Int) then IntKind.wrap IntKind.i64 ((0 : Int) - b) else if b > if IntKind.wrap IntKind.i64 ((0 : Int) - a) > if a > (0 : Int) then a else (0 : Int) then IntKind.wrap IntKind.i64 ((0 : Int) - a) else if a > (0 : Int) then a else (0 : Int) then b else if IntKind.wrap IntKind.i64 ((0 : Int) - a) > if a > (0 : Int) then a else (0 : Int) then IntKind.wrap IntKind.i64 ((0 : Int) - a) else if a > (0 : Int) then a else (0 : Int) then c else if IntKind.wrap IntKind.i64 ((0 : Int) - b) > if b > if IntKind.wrap IntKind.i64 ((0 : Int) - a) > if a > (0 : Int) then a else (0 : Int) then IntKind.wrap IntKind.i64 ((0 : Int) - a) else if a > (0 : Int) then a else (0 : Int) then b else if IntKind.wrap IntKind.i64 ((0 : Int) - a) > if a > (0 : Int) then a else (0 : Int) then IntKind.wrap IntKind.i64 ((0 : Int) - a) else if a > (0 : Int) then a else (0 : Int) then IntKind.wrap IntKind.i64 ((0 : Int) - b) else if b > if IntKind.wrap IntKind.i64 ((0 : Int) - a) > if a > (0 : Int) then a else (0 : Int) then IntKind.wrap IntKind.i64 ((0 : Int) - a) else if a > (0 : Int) then a else (0 : Int) then b else if IntKind.wrap IntKind.i64 ((0 : Int) - a) > if a > (0 : Int) then a else (0 : Int) then IntKind.wrap IntKind.i64 ((0 : Int) - a) else if a > (0 : Int) then a else (0 : Int) then d else if IntKind.wrap IntKind.i64 ((0 : Int) - c) > if c > if IntKind.wrap IntKind.i64 ((0 : Int) - b) > if b > if IntKind.wrap IntKind.i64 ((0 : Int) - a) > if a > (0 : Int) then a else (0 : Int) then IntKind.wrap IntKind.i64 ((0 : Int) - a) else if a > (0 : Int) then a else (0 : Int) then b else if IntKind.wrap IntKind.i64 ((0 : Int) - a) > if a > (0 : Int) then a else (0 : Int) then IntKind.wrap IntKind.i64 ((0 : Int) - a) else if a > (0 : Int) then a else (0 : Int) then IntKind.wrap IntKind.i64 ((0 : Int) - b) else if b > if IntKind.wrap IntKind.i64 ((0 : Int) - a) > if a > (0 : Int) then a else (0 : Int) then IntKind.wrap IntKind.i64 ((0 : Int) - a) else if a > (0 : Int) then a else (0 : Int) then b else if IntKind.wrap IntKind.i64 ((0 : Int) - a) > if a > (0 : Int) then a else (0 : Int) then IntKind.wrap IntKind.i64 ((0 : Int) - a) else if a > (0 : Int) then a else (0 : Int) then c else if IntKind.wrap IntKind.i64 ((0 : Int) - b) > if b > if IntKind.wrap IntKind.i64 ((0 : Int) - a) > if a > (0 : Int) then a else (0 : Int) then IntKind.wrap IntKind.i64 ((0 : Int) - a) else if a > (0 : Int) then a else (0 : Int) then b else if IntKind.wrap IntKind.i64 ((0 : Int) - a) > if a > (0 : Int) then a else (0 : Int) then IntKind.wrap IntKind.i64 ((0 : Int) - a) else if a > (0 : Int) then a else (0 : Int) then IntKind.wrap IntKind.i64 ((0 : Int) - b) else if b > if IntKind.wrap IntKind.i64 ((0 : Int) - a) > if a > (0 : Int) then a else (0 : Int) then IntKind.wrap IntKind.i64 ((0 : Int) - a) else if a > (0 : Int) then a else (0 : Int) then b else if IntKind.wrap IntKind.i64 ((0 : Int) - a) > if a > (0 : Int) then a else (0 : Int) then IntKind.wrap IntKind.i64 ((0 : Int) - a) else if a > (0 : Int) then a else (0 : Int) then IntKind.wrap IntKind.i64 ((0 : Int) - c) else if c > if IntKind.wrap IntKind.i64 ((0 : Int) - b) > if b > if IntKind.wrap IntKind.i64 ((0 : Int) - a) > if a > (0 : Int) then a else (0 : Int) then IntKind.wrap IntKind.i64 ((0 : Int) - a) else if a > (0 : Int) then a else (0 : Int) then b else if IntKind.wrap IntKind.i64 ((0 : Int) - a) > if a > (0 : Int) then a else (0 : Int) then IntKind.wrap IntKind.i64 ((0 : Int) - a) else if a > (0 : Int) then a else (0 : Int) then IntKind.wrap IntKind.i64 ((0 : Int) - b) else if b > if IntKind.wrap IntKind.i64 ((0 : Int) - a) > if a > (0 : Int) then a else (0 : Int) then IntKind.wrap IntKind.i64 ((0 : Int) - a) else if a > (0 : Int) then a else (0 : Int) then b else if IntKind.wrap IntKind.i64 ((0 : Int) - a) > if a > (0 : Int) then a else (0 : Int) then IntKind.wrap IntKind.i64 ((0 : Int) - a) else if a > (0 : Int) then a else (0 : Int) then c else if IntKind.wrap IntKind.i64 ((0 : Int) - b) > if b > if IntKind.wrap IntKind.i64 ((0 : Int) - a) > if a > (0 : Int) then a else (0 : Int) then IntKind.wrap IntKind.i64 ((0 : Int) - a) else if a > (0 : Int) then a else (0 : Int) then b else if IntKind.wrap IntKind.i64 ((0 : Int) - a) > if a > (0 : Int) then a else (0 : Int) then IntKind.wrap IntKind.i64 ((0 : Int) - a) else if a > (0 : Int) then a else (0 : Int) then IntKind.wrap IntKind.i64 ((0 : Int) - b) else if b > if IntKind.wrap IntKind.i64 ((0 : Int) - a) > if a > (0 : Int) then a else (0 : Int) then IntKind.wrap IntKind.i64 ((0 : Int) - a) else if a > (0 : Int) then a else (0 : Int) then b else if IntKind.wrap IntKind.i64 ((0 : Int) - a) > if a > (0 : Int) then a else (0 : Int) then IntKind.wrap IntKind.i64 ((0 : Int) - a) else if a > (0 : Int) then a else (0 : Int) then IntKind.wrap IntKind.i64 ((0 : Int) - d) else if d > if IntKind.wrap IntKind.i64 ((0 : Int) - c) > if c > if IntKind.wrap IntKind.i64 ((0 : Int) - b) > if b > if IntKind.wrap IntKind.i64 ((0 : Int) - a) > if a > (0 : Int) then a else (0 : Int) then IntKind.wrap IntKind.i64 ((0 : Int) - a) else if a > (0 : Int) then a else (0 : Int) then b else if IntKind.wrap IntKind.i64 ((0 : Int) - a) > if a > (0 : Int) then a else (0 : Int) then IntKind.wrap IntKind.i64 ((0 : Int) - a) else if a > (0 : Int) then a else (0 : Int) then IntKind.wrap IntKind.i64 ((0 : Int) - b) else if b > if IntKind.wrap IntKind.i64 ((0 : Int) - a) > if a > (0 : Int) then a else (0 : Int) then IntKind.wrap IntKind.i64 ((0 : Int) - a) else if a > (0 : Int) then a else (0 : Int) then b else if IntKind.wrap IntKind.i64 ((0 : Int) - a) > if a > (0 : Int) then a else (0 : Int) then IntKind.wrap IntKind.i64 ((0 : Int) - a) else if a > (0 : Int) then a else (0 : Int) then c else if IntKind.wrap IntKind.i64 ((0 : Int) - b) > if b > if IntKind.wrap IntKind.i64 ((0 : Int) - a) > if a > (0 : Int) then a else (0 : Int) then IntKind.wrap IntKind.i64 ((0 : Int) - a) else if a > (0 : Int) then a else (0 : Int) then b else if IntKind.wrap IntKind.i64 ((0 : Int) - a) > if a > (0 : Int) then a else (0 : Int) then IntKind.wrap IntKind.i64 ((0 : Int) - a) else if a > (0 : Int) then a else (0 : Int) then IntKind.wrap IntKind.i64 ((0 : Int) - b) else if b > if IntKind.wrap IntKind.i64 ((0 : Int) - a) > if a > (0 : Int) then a else (0 : Int) then IntKind.wrap IntKind.i64 ((0 : Int) - a) else if a > (0 : Int) then a else (0 : Int) then b else if IntKind.wrap IntKind.i64 ((0 : Int) - a) > if a > (0 : Int) then a else (0 : Int) then IntKind.wrap IntKind.i64 ((0 : Int) - a) else if a > (0 : Int) then a else (0 : Int) then IntKind.wrap IntKind.i64 ((0 : Int) - c) else if c > if IntKind.wrap IntKind.i64 ((0 : Int) - b) > if b > if IntKind.wrap IntKind.i64 ((0 : Int) - a) > if a > (0 : Int) then a else (0 : Int) then IntKind.wrap IntKind.i64 ((0 : Int) - a) else if a > (0 : Int) then a else (0 : Int) then b else if IntKind.wrap IntKind.i64 ((0 : Int) - a) > if a > (0 : Int) then a else (0 : Int) then IntKind.wrap IntKind.i64 ((0 : Int) - a) else if a > (0 : Int) then a else (0 : Int) then IntKind.wrap IntKind.i64 ((0 : Int) - b) else if b > if IntKind.wrap IntKind.i64 ((0 : Int) - a) > if a > (0 : Int) then a else (0 : Int) then IntKind.wrap IntKind.i64 ((0 : Int) - a) else if a > (0 : Int) then a else (0 : Int) then b else if IntKind.wrap IntKind.i64 ((0 : Int) - a) > if a > (0 : Int) then a else (0 : Int) then IntKind.wrap IntKind.i64 ((0 : Int) - a) else if a > (0 : Int) then a else (0 : Int) then c else if IntKind.wrap IntKind.i64 ((0 : Int) - b) > if b > if IntKind.wrap IntKind.i64 ((0 : Int) - a) > if a > (0 : Int) then a else (0 : Int) then IntKind.wrap IntKind.i64 ((0 : Int) - a) else if a > (0 : Int) then a else (0 : Int) then b else if IntKind.wrap IntKind.i64 ((0 : Int) - a) > if a > (0 : Int) then a else (0 : Int) then IntKind.wrap IntKind.i64 ((0 : Int) - a) else if a > (0 : Int) then a else (0 : Int) then IntKind.wrap IntKind.i64 ((0 : Int) - b) else if b > if IntKind.wrap IntKind.i64 ((0 : Int) - a) > if a > (0 : Int) then a else (0 : Int) then IntKind.wrap IntKind.i64 ((0 : Int) - a) else if a > (0 : Int) then a else (0 : Int) then b else if IntKind.wrap IntKind.i64 ((0 : Int) - a) > if a > (0 : Int) then a else (0 : Int) then IntKind.wrap IntKind.i64 ((0 : Int) - a) else if a > (0 : Int) then a else (0 : Int) then d else if IntKind.wrap IntKind.i64 ((0 : Int) - c) > if c > if IntKind.wrap IntKind.i64 ((0 : Int) - b) > if b > if IntKind.wrap IntKind.i64 ((0 : Int) - a) > if a > (0 : Int) then a else (0 : Int) then IntKind.wrap IntKind.i64 ((0 : Int) - a) else if a > (0 : Int) then a else (0 : Int) then b else if IntKind.wrap IntKind.i64 ((0 : Int) - a) > if a > (0 : Int) then a else (0 : Int) then IntKind.wrap IntKind.i64 ((0 : Int) - a) else if a > (0 : Int) then a else (0 : Int) then IntKind.wrap IntKind.i64 ((0 : Int) - b) else if b > if IntKind.wrap IntKind.i64 ((0 : Int) - a) > if a > (0 : Int) then a else (0 : Int) then IntKind.wrap IntKind.i64 ((0 : Int) - a) else if a > (0 : Int) then a else (0 : Int) then b else if IntKind.wrap IntKind.i64 ((0 : Int) - a) > if a > (0 : Int) then a else (0 : Int) then IntKind.wrap IntKind.i64 ((0 : Int) - a) else if a > (0 : Int) then a else (0 : Int) then c else if IntKind.wrap IntKind.i64 ((0 : Int) - b) > if b > if IntKind.wrap IntKind.i64 ((0 : Int) - a) > if a > (0 : Int) then a else (0 : Int) then IntKind.wrap IntKind.i64 ((0 : Int) - a) else if a > (0 : Int) then a else (0 : Int) then b else if IntKind.wrap IntKind.i64 ((0 : Int) - a) > if a > (0 : Int) then a else (0 : Int) then IntKind.wrap IntKind.i64 ((0 : Int) - a) else if a > (0 : Int) then a else (0 : Int) then IntKind.wrap IntKind.i64 ((0 : Int) - b) else if b > if IntKind.wrap IntKind.i64 ((0 : Int) - a) > if a > (0 : Int) then a else (0 : Int) then IntKind.wrap IntKind.i64 ((0 : Int) - a) else if a > (0 : Int) then a else (0 : Int) then b else if IntKind.wrap IntKind.i64 ((0 : Int) - a) > if a > (0 : Int) then a else (0 : Int) then IntKind.wrap IntKind.i64 ((0 : Int) - a) else if a > (0 : Int) then a else (0 : Int) then IntKind.wrap IntKind.i64 ((0 : Int) - c) else if c > if IntKind.wrap IntKind.i64 ((0 : Int) - b) > if b > if IntKind.wrap IntKind.i64 ((0 : Int) - a) > if a > (0 : Int) then a else (0 : Int) then IntKind.wrap IntKind.i64 ((0 : Int) - a) else if a > (0 : Int) then a else (0 : Int) then b else if IntKind.wrap IntKind.i64 ((0 : Int) - a) > if a > (0 : Int) then a else (0 : Int) then IntKind.wrap IntKind.i64 ((0 : Int) - a) else if a > (0 : Int) then a else (0 : Int) then IntKind.wrap IntKind.i64 ((0 : Int) - b) else if b > if IntKind.wrap IntKind.i64 ((0 : Int) - a) > if a > (0 : Int) then a else (0 : Int) then IntKind.wrap IntKind.i64 ((0 : Int) - a) else if a > (0 : Int) then a else (0 : Int) then b else if IntKind.wrap IntKind.i64 ((0 : Int) - a) > if a > (0 : Int) then a else (0 : Int) then IntKind.wrap IntKind.i64 ((0 : Int) - a) else if a > (0 : Int) then a else (0 : Int) then c else if IntKind.wrap IntKind.i64 ((0 : Int) - b) > if b > if IntKind.wrap IntKind.i64 ((0 : Int) - a) > if a > (0 : Int) then a else (0 : Int) then IntKind.wrap IntKind.i64 ((0 : Int) - a) else if a > (0 : Int) then a else (0 : Int) then b else if IntKind.wrap IntKind.i64 ((0 : Int) - a) > if a > (0 : Int) then a else (0 : Int) then IntKind.wrap IntKind.i64 ((0 : Int) - a) else if a > (0 : Int) then a else (0 : Int) then IntKind.wrap IntKind.i64 ((0 : Int) - b) else if b > if IntKind.wrap IntKind.i64 ((0 : Int) - a) > if a > (0 : Int) then a else (0 : Int) then IntKind.wrap IntKind.i64 ((0 : Int) - a) else if a > (0 : Int) then a else (0 : Int) then b else if IntKind.wrap IntKind.i64 ((0 : Int) - a) > if a > (0 : Int) then a else (0 : Int) then IntKind.wrap IntKind.i64 ((0 : Int) - a) else if a > (0 : Int) then a else (0 : Int))))) := by kernel_rfl
set_option maxHeartbeats 4000000 in
theorem dm_val (a : Int) (b : Int) (c : Int) (d : Int) : (.ret (.one (.v false (.int .i64 (bif !dval a b c d then (0 : Int) else if IntKind.wrap IntKind.i64 ((0 : Int) - d) > if d > if IntKind.wrap IntKind.i64 ((0 : Int) - c) > if c > if IntKind.wrap IntKind.i64 ((0 : Int) - b) > if b > if IntKind.wrap IntKind.i64 ((0 : Int) - a) > if a > (0 : Int) then a else (0 : Int) then IntKind.wrap IntKind.i64 ((0 : Int) - a) else if a > (0 : Int) then a else (0 : Int) then b else if IntKind.wrap IntKind.i64 ((0 : Int) - a) > if a > (0 : Int) then a else (0 : Int) then IntKind.wrap IntKind.i64 ((0 : Int) - a) else if a > (0 : Int) then a else (0 : Int) then IntKind.wrap IntKind.i64 ((0 : Int) - b) else if b > if IntKind.wrap IntKind.i64 ((0 : Int) - a) > if a > (0 : Int) then a else (0 : Int) then IntKind.wrap IntKind.i64 ((0 : Int) - a) else if a > (0 : Int) then a else (0 : Int) then b else if IntKind.wrap IntKind.i64 ((0 : Int) - a) > if a > (0 : Int) then a else (0 : Int) then IntKind.wrap IntKind.i64 ((0 : Int) - a) else if a > (0 : Int) then a else (0 : Int) then c else if IntKind.wrap IntKind.i64 ((0 : Int) - b) > if b > if IntKind.wrap IntKind.i64 ((0 : Int) - a) > if a > (0 : Int) then a else (0 : Int) then IntKind.wrap IntKind.i64 ((0 : Int) - a) else if a > (0 : Int) then a else (0 : Int) then b else if IntKind.wrap IntKind.i64 ((0 : Int) - a) > if a > (0 : Int) then a else (0 : Int) then IntKind.wrap IntKind.i64 ((0 : Int) - a) else if a > (0 : Int) then a else (0 : Int) then IntKind.wrap IntKind.i64 ((0 : Int) - b) else if b > if IntKind.wrap IntKind.i64 ((0 : Int) - a) > if a > (0 : Int) then a else (0 : Int) then IntKind.wrap IntKind.i64 ((0 : Int) - a) else if a > (0 : Int) then a else (0 : Int) then b else if IntKind.wrap IntKind.i64 ((0 : Int) - a) > if a > (0 : Int) then a else (0 : Int) then IntKind.wrap IntKind.i64 ((0 : Int) - a) else if a > (0 : Int) then a else (0 : Int) then IntKind.wrap IntKind.i64 ((0 : Int) - c) else if c > if IntKind.wrap IntKind.i64 ((0 : Int) - b) > if b > if IntKind.wrap IntKind.i64 ((0 : Int) - a) > if a > (0 : Int) then a else (0 : Int) then IntKind.wrap IntKind.i64 ((0 : Int) - a) else if a > (0 : Int) then a else (0 : Int) then b else if IntKind.wrap IntKind.i64 ((0 : Int) - a) > if a > (0 : Int) then a else (0 : Int) then IntKind.wrap IntKind.i64 ((0 : Int) - a) else if a > (0 : Int) then a else (0 : Int) then IntKind.wrap IntKind.i64 ((0 : Int) - b) else if b > if IntKind.wrap IntKind.i64 ((0 : Int) - a) > if a > (0 : Int) then a else (0 : Int) then IntKind.wrap IntKind.i64 ((0 : Int) - a) else if a > (0 : Int) then a else (0 : Int) then b else if IntKind.wrap IntKind.i64 ((0 : Int) - a) > if a > (0 : Int) then a else (0 : Int) then IntKind.wrap IntKind.i64 ((0 : Int) - a) else if a > (0 : Int) then a else (0 : Int) then c else if IntKind.wrap IntKind.i64 ((0 : Int) - b) > if b > if IntKind.wrap IntKind.i64 ((0 : Int) - a) > if a > (0 : Int) then a else (0 : Int) then IntKind.wrap IntKind.i64 ((0 : Int) - a) else if a > (0 : Int) then a else (0 : Int) then b else if IntKind.wrap IntKind.i64 ((0 : Int) - a) > if a > (0 : Int) then a else (0 : Int) then IntKind.wrap IntKind.i64 ((0 : Int) - a) else if a > (0 : Int) then a else (0 : Int) then IntKind.wrap IntKind.i64 ((0 : Int) - b) else if b > if IntKind.wrap IntKind.i64 ((0 : Int) - a) > if a > (0 : Int) then a else (0 : Int) then IntKind.wrap IntKind.i64 ((0 : Int) - a) else if a > (0 : Int) then a else (0 : Int) then b else if IntKind.wrap IntKind.i64 ((0 : Int) - a) > if a > (0 : Int) then a else (0 : Int) then IntKind.wrap IntKind.i64 ((0 : Int) - a) else if a > (0 : Int) then a else (0 : Int) then d else if IntKind.wrap IntKind.i64 ((0 : Int) - c) > if c > if IntKind.wrap IntKind.i64 ((0 : Int) - b) > if b > if IntKind.wrap IntKind.i64 ((0 : Int) - a) > if a > (0 : Int) then a else (0 : Int) then IntKind.wrap IntKind.i64 ((0 : Int) - a) else if a > (0 : Int) then a else (0 : Int) then b else if IntKind.wrap IntKind.i64 ((0 : Int) - a) > if a > (0 : Int) then a else (0 : Int) then IntKind.wrap IntKind.i64 ((0 : Int) - a) else if a > (0 : Int) then a else (0 : Int) then IntKind.wrap IntKind.i64 ((0 : Int) - b) else if b > if IntKind.wrap IntKind.i64 ((0 : Int) - a) > if a > (0 : Int) then a else (0 : Int) then IntKind.wrap IntKind.i64 ((0 : Int) - a) else if a > (0 : Int) then a else (0 : Int) then b else if IntKind.wrap IntKind.i64 ((0 : Int) - a) > if a > (0 : Int) then a else (0 : Int) then IntKind.wrap IntKind.i64 ((0 : Int) - a) else if a > (0 : Int) then a else (0 : Int) then c else if IntKind.wrap IntKind.i64 ((0 : Int) - b) > if b > if IntKind.wrap IntKind.i64 ((0 : Int) - a) > if a > (0 : Int) then a else (0 : Int) then IntKind.wrap IntKind.i64 ((0 : Int) - a) else if a > (0 : Int) then a else (0 : Int) then b else if IntKind.wrap IntKind.i64 ((0 : Int) - a) > if a > (0 : Int) then a else (0 : Int) then IntKind.wrap IntKind.i64 ((0 : Int) - a) else if a > (0 : Int) then a else (0 : Int) then IntKind.wrap IntKind.i64 ((0 : Int) - b) else if b > if IntKind.wrap IntKind.i64 ((0 : Int) - a) > if a > (0 : Int) then a else (0 : Int) then IntKind.wrap IntKind.i64 ((0 : Int) - a) else if a > (0 : Int) then a else (0 : Int) then b else if IntKind.wrap IntKind.i64 ((0 : Int) - a) > if a > (0 : Int) then a else (0 : Int) then IntKind.wrap IntKind.i64 ((0 : Int) - a) else if a > (0 : Int) then a else (0 : Int) then IntKind.wrap IntKind.i64 ((0 : Int) - c) else if c > if IntKind.wrap IntKind.i64 ((0 : Int) - b) > if b > if IntKind.wrap IntKind.i64 ((0 : Int) - a) > if a > (0 : Int) then a else (0 : Int) then IntKind.wrap IntKind.i64 ((0 : Int) - a) else if a > (0 : Int) then a else (0 : Int) then b else if IntKind.wrap IntKind.i64 ((0 : Int) - a) > if a > (0 : Int) then a else (0 : Int) then IntKind.wrap IntKind.i64 ((0 : Int) - a) else if a > (0 : Int) then a else (0 : Int) then IntKind.wrap IntKind.i64 ((0 : Int) - b) else if b > if IntKind.wrap IntKind.i64 ((0 : Int) - a) > if a > (0 : Int) then a else (0 : Int) then IntKind.wrap IntKind.i64 ((0 : Int) - a) else if a > (0 : Int) then a else (0 : Int) then b else if IntKind.wrap IntKind.i64 ((0 : Int) - a) > if a > (0 : Int) then a else (0 : Int) then IntKind.wrap IntKind.i64 ((0 : Int) - a) else if a > (0 : Int) then a else (0 : Int) then c else if IntKind.wrap IntKind.i64 ((0 : Int) - b) > if b > if IntKind.wrap IntKind.i64 ((0 : Int) - a) > if a > (0 : Int) then a else (0 : Int) then IntKind.wrap IntKind.i64 ((0 : Int) - a) else if a > (0 : Int) then a else (0 : Int) then b else if IntKind.wrap IntKind.i64 ((0 : Int) - a) > if a > (0 : Int) then a else (0 : Int) then IntKind.wrap IntKind.i64 ((0 : Int) - a) else if a > (0 : Int) then a else (0 : Int) then IntKind.wrap IntKind.i64 ((0 : Int) - b) else if b > if IntKind.wrap IntKind.i64 ((0 : Int) - a) > if a > (0 : Int) then a else (0 : Int) then IntKind.wrap IntKind.i64 ((0 : Int) - a) else if a > (0 : Int) then a else (0 : Int) then b else if IntKind.wrap IntKind.i64 ((0 : Int) - a) > if a > (0 : Int) then a else (0 : Int) then IntKind.wrap IntKind.i64 ((0 : Int) - a) else if a > (0 : Int) then a else (0 : Int) then IntKind.wrap IntKind.i64 ((0 : Int) - d) else if d > if IntKind.wrap IntKind.i64 ((0 : Int) - c) > if c > if IntKind.wrap IntKind.i64 ((0 : Int) - b) > if b > if IntKind.wrap IntKind.i64 ((0 : Int) - a) > if a > (0 : Int) then a else (0 : Int) then IntKind.wrap IntKind.i64 ((0 : Int) - a) else if a > (0 : Int) then a else (0 : Int) then b else if IntKind.wrap IntKind.i64 ((0 : Int) - a) > if a > (0 : Int) then a else (0 : Int) then IntKind.wrap IntKind.i64 ((0 : Int) - a) else if a > (0 : Int) then a else (0 : Int) then IntKind.wrap IntKind.i64 ((0 : Int) - b) else if b > if IntKind.wrap IntKind.i64 ((0 : Int) - a) > if a > (0 : Int) then a else (0 : Int) then IntKind.wrap IntKind.i64 ((0 : Int) - a) else if a > (0 : Int) then a else (0 : Int) then b else if IntKind.wrap IntKind.i64 ((0 : Int) - a) > if a > (0 : Int) then a else (0 : Int) then IntKind.wrap IntKind.i64 ((0 : Int) - a) else if a > (0 : Int) then a else (0 : Int) then c else if IntKind.wrap IntKind.i64 ((0 : Int) - b) > if b > if IntKind.wrap IntKind.i64 ((0 : Int) - a) > if a > (0 : Int) then a else (0 : Int) then IntKind.wrap IntKind.i64 ((0 : Int) - a) else if a > (0 : Int) then a else (0 : Int) then b else if IntKind.wrap IntKind.i64 ((0 : Int) - a) > if a > (0 : Int) then a else (0 : Int) then IntKind.wrap IntKind.i64 ((0 : Int) - a) else if a > (0 : Int) then a else (0 : Int) then IntKind.wrap IntKind.i64 ((0 : Int) - b) else if b > if IntKind.wrap IntKind.i64 ((0 : Int) - a) > if a > (0 : Int) then a else (0 : Int) then IntKind.wrap IntKind.i64 ((0 : Int) - a) else if a > (0 : Int) then a else (0 : Int) then b else if IntKind.wrap IntKind.i64 ((0 : Int) - a) > if a > (0 : Int) then a else (0 : Int) then IntKind.wrap IntKind.i64 ((0 : Int) - a) else if a > (0 : Int) then a else (0 : Int) then IntKind.wrap IntKind.i64 ((0 : Int) - c) else if c > if IntKind.wrap IntKind.i64 ((0 : Int) - b) > if b > if IntKind.wrap IntKind.i64 ((0 : Int) - a) > if a > (0 : Int) then a else (0 : Int) then IntKind.wrap IntKind.i64 ((0 : Int) - a) else if a > (0 : Int) then a else (0 : Int) then b else if IntKind.wrap IntKind.i64 ((0 : Int) - a) > if a > (0 : Int) then a else (0 : Int) then IntKind.wrap IntKind.i64 ((0 : Int) - a) else if a > (0 : Int) then a else (0 : Int) then IntKind.wrap IntKind.i64 ((0 : Int) - b) else if b > if IntKind.wrap IntKind.i64 ((0 : Int) - a) > if a > (0 : Int) then a else (0 : Int) then IntKind.wrap IntKind.i64 ((0 : Int) - a) else if a > (0 : Int) then a else (0 : Int) then b else if IntKind.wrap IntKind.i64 ((0 : Int) - a) > if a > (0 : Int) then a else (0 : Int) then IntKind.wrap IntKind.i64 ((0 : Int) - a) else if a > (0 : Int) then a else (0 : Int) then c else if IntKind.wrap IntKind.i64 ((0 : Int) - b) > if b > if IntKind.wrap IntKind.i64 ((0 : Int) - a) > if a > (0 : Int) then a else (0 : Int) then IntKind.wrap IntKind.i64 ((0 : Int) - a) else if a > (0 : Int) then a else (0 : Int) then b else if IntKind.wrap IntKind.i64 ((0 : Int) - a) > if a > (0 : Int) then a else (0 : Int) then IntKind.wrap IntKind.i64 ((0 : Int) - a) else if a > (0 : Int) then a else (0 : Int) then IntKind.wrap IntKind.i64 ((0 : Int) - b) else if b > if IntKind.wrap IntKind.i64 ((0 : Int) - a) > if a > (0 : Int) then a else (0 : Int) then IntKind.wrap IntKind.i64 ((0 : Int) - a) else if a > (0 : Int) then a else (0 : Int) then b else if IntKind.wrap IntKind.i64 ((0 : Int) - a) > if a > (0 : Int) then a else (0 : Int) then IntKind.wrap IntKind.i64 ((0 : Int) - a) else if a > (0 : Int) then a else (0 : Int) then d else if IntKind.wrap IntKind.i64 ((0 : Int) - c) > if c > if IntKind.wrap IntKind.i64 ((0 : Int) - b) > if b > if IntKind.wrap IntKind.i64 ((0 : Int) - a) > if a > (0 : Int) then a else (0 : Int) then IntKind.wrap IntKind.i64 ((0 : Int) - a) else if a > (0 : Int) then a else (0 : Int) then b else if IntKind.wrap IntKind.i64 ((0 : Int) - a) > if a > (0 : Int) then a else (0 : Int) then IntKind.wrap IntKind.i64 ((0 : Int) - a) else if a > (0 : Int) then a else (0 : Int) then IntKind.wrap IntKind.i64 ((0 : Int) - b) else if b > if IntKind.wrap IntKind.i64 ((0 : Int) - a) > if a > (0 : Int) then a else (0 : Int) then IntKind.wrap IntKind.i64 ((0 : Int) - a) else if a > (0 : Int) then a else (0 : Int) then b else if IntKind.wrap IntKind.i64 ((0 : Int) - a) > if a > (0 : Int) then a else (0 : Int) then IntKind.wrap IntKind.i64 ((0 : Int) - a) else if a > (0 : Int) then a else (0 : Int) then c else if IntKind.wrap IntKind.i64 ((0 : Int) - b) > if b > if IntKind.wrap IntKind.i64 ((0 : Int) - a) > if a > (0 : Int) then a else (0 : Int) then IntKind.wrap IntKind.i64 ((0 : Int) - a) else if a > (0 : Int) then a else (0 : Int) then b else if IntKind.wrap IntKind.i64 ((0 : Int) - a) > if a > (0 : Int) then a else (0 : Int) then IntKind.wrap IntKind.i64 ((0 : Int) - a) else if a > (0 : Int) then a else (0 : Int) then IntKind.wrap IntKind.i64 ((0 : Int) - b) else if b > if IntKind.wrap IntKind.i64 ((0 : Int) - a) > if a > (0 : Int) then a else (0 : Int) then IntKind.wrap IntKind.i64 ((0 : Int) - a) else if a > (0 : Int) then a else (0 : Int) then b else if IntKind.wrap IntKind.i64 ((0 : Int) - a) > if a > (0 : Int) then a else (0 : Int) then IntKind.wrap IntKind.i64 ((0 : Int) - a) else if a > (0 : Int) then a else (0 : Int) then IntKind.wrap IntKind.i64 ((0 : Int) - c) else if c > if IntKind.wrap IntKind.i64 ((0 : Int) - b) > if b > if IntKind.wrap IntKind.i64 ((0 : Int) - a) > if a > (0 : Int) then a else (0 : Int) then IntKind.wrap IntKind.i64 ((0 : Int) - a) else if a > (0 : Int) then a else (0 : Int) then b else if IntKind.wrap IntKind.i64 ((0 : Int) - a) > if a > (0 : Int) then a else (0 : Int) then IntKind.wrap IntKind.i64 ((0 : Int) - a) else if a > (0 : Int) then a else (0 : Int) then IntKind.wrap IntKind.i64 ((0 : Int) - b) else if b > if IntKind.wrap IntKind.i64 ((0 : Int) - a) > if a > (0 : Int) then a else (0 : Int) then IntKind.wrap IntKind.i64 ((0 : Int) - a) else if a > (0 : Int) then a else (0 : Int) then b else if IntKind.wrap IntKind.i64 ((0 : Int) - a) > if a > (0 : Int) then a else (0 : Int) then IntKind.wrap IntKind.i64 ((0 : Int) - a) else if a > (0 : Int) then a else (0 : Int) then c else if IntKind.wrap IntKind.i64 ((0 : Int) - b) > if b > if IntKind.wrap IntKind.i64 ((0 : Int) - a) > if a > (0 : Int) then a else (0 : Int) then IntKind.wrap IntKind.i64 ((0 : Int) - a) else if a > (0 : Int) then a else (0 : Int) then b else if IntKind.wrap IntKind.i64 ((0 : Int) - a) > if a > (0 : Int) then a else (0 : Int) then IntKind.wrap IntKind.i64 ((0 : Int) - a) else if a > (0 : Int) then a else (0 : Int) then IntKind.wrap IntKind.i64 ((0 : Int) - b) else if b > if IntKind.wrap IntKind.i64 ((0 : Int) - a) > if a > (0 : Int) then a else (0 : Int) then IntKind.wrap IntKind.i64 ((0 : Int) - a) else if a > (0 : Int) then a else (0 : Int) then b else if IntKind.wrap IntKind.i64 ((0 : Int) - a) > if a > (0 : Int) then a else (0 : Int) then IntKind.wrap IntKind.i64 ((0 : Int) - a) else if a > (0 : Int) then a else (0 : Int))))) : Tr AV).val = some (.one (.v false (.int .i64 (dom a b c d)))) := by
  refine congrArg (fun b => some (AV.one (.v false (.int .i64 b)))) ?_
  cases hv : dval a b c d
  · simp only [dom, hv]; rfl
  · obtain ⟨e0, e1, e2, e3, _⟩ := dv_iff.1 hv
    simp only [neg_w e0, neg_w e1, neg_w e2, neg_w e3, Bool.not_true, cond_false]
    simp only [dom, if_pos hv]; rfl
noncomputable def dm_g : List AV → Option (Tr AV)
  | [.ag [.v _ (.int .i64 a), .v _ (.int .i64 b), .v _ (.int .i64 c), .v _ (.int .i64 d)]] => some (.ret (.one (.v false (.int .i64 (dom a b c d)))))
  | _ => none
set_option maxHeartbeats 4000000 in
theorem dm_ok : FunOK Try.prog 28 dm_g := by
  refine fun_ok (by kernel_rfl) (puA_S52_ok) (L0_ok _) 9 (On := (opens [45])) (fun args t h => ?_)
  unfold dm_g at h
  split at h
  · rename_i _ a _ b _ c _ d
    simp only [Option.some.injEq] at h
    subst h
    refine ⟨[.ag [.v false (.int .i64 a), .v false (.int .i64 b), .v false (.int .i64 c), .v false (.int .i64 d)]], rfl, fun fr w us h => h, fun r hr => ?_⟩
    simp only [Tr.val, Option.some.injEq] at hr
    subst hr
    rw [dm_tree]
    exact dm_val a b c d
  · cases h
noncomputable def puA_S53 : Sums := addS 28 dm_g puA_S52
theorem puA_S53_ok : SumOK Try.prog puA_S53 := addS_ok (dm_ok) (puA_S52_ok)
set_option maxRecDepth 100000 in
theorem rdm_tree (a : Int) (b : Int) (c : Int) (d : Int) : evalF Try.prog puA_S53 (opens [45]) L0 9 23 [.ag [.v false (.int .i64 a), .v false (.int .i64 b), .v false (.int .i64 c), .v false (.int .i64 d)]] = .ret (.one (.v false (.int .i64 (bif !dval a b c d then (0 : Int) else if (if IntKind.wrap IntKind.i64 ((0 : Int) - d) > d then IntKind.wrap IntKind.i64 ((0 : Int) - d) else d) > if (if IntKind.wrap IntKind.i64 ((0 : Int) - c) > c then IntKind.wrap IntKind.i64 ((0 : Int) - c) else c) > if (if IntKind.wrap IntKind.i64 ((0 : Int) - b) > b then IntKind.wrap IntKind.i64 ((0 : Int) - b) else b) > if (if IntKind.wrap IntKind.i64 ((0 : Int) - a) > a then IntKind.wrap IntKind.i64 ((0 : Int) - a) else a) > (0 : Int) then if IntKind.wrap IntKind.i64 ((0 : Int) - a) > a then IntKind.wrap IntKind.i64 ((0 : Int) - a) else a else (0 : Int) then if IntKind.wrap IntKind.i64 ((0 : Int) - b) > b then IntKind.wrap IntKind.i64 ((0 : Int) - b) else b else if (if IntKind.wrap IntKind.i64 ((0 : Int) - a) > a then IntKind.wrap IntKind.i64 ((0 : Int) - a) else a) > (0 : Int) then if IntKind.wrap IntKind.i64 ((0 : Int) - a) > a then IntKind.wrap IntKind.i64 ((0 : Int) - a) else a else (0 : Int) then if IntKind.wrap IntKind.i64 ((0 : Int) - c) > c then IntKind.wrap IntKind.i64 ((0 : Int) - c) else c else if (if IntKind.wrap IntKind.i64 ((0 : Int) - b) > b then IntKind.wrap IntKind.i64 ((0 : Int) - b) else b) > if (if IntKind.wrap IntKind.i64 ((0 : Int) - a) > a then IntKind.wrap IntKind.i64 ((0 : Int) - a) else a) > (0 : Int) then if IntKind.wrap IntKind.i64 ((0 : Int) - a) > a then IntKind.wrap IntKind.i64 ((0 : Int) - a) else a else (0 : Int) then if IntKind.wrap IntKind.i64 ((0 : Int) - b) > b then IntKind.wrap IntKind.i64 ((0 : Int) - b) else b else if (if IntKind.wrap IntKind.i64 ((0 : Int) - a) > a then IntKind.wrap IntKind.i64 ((0 : Int) - a) else a) > (0 : Int) then if IntKind.wrap IntKind.i64 ((0 : Int) - a) > a then IntKind.wrap IntKind.i64 ((0 : Int) - a) else a else (0 : Int) then if IntKind.wrap IntKind.i64 ((0 : Int) - d) > d then IntKind.wrap IntKind.i64 ((0 : Int) - d) else d else if (if IntKind.wrap IntKind.i64 ((0 : Int) - c) > c then IntKind.wrap IntKind.i64 ((0 : Int) - c) else c) > if (if IntKind.wrap IntKind.i64 ((0 : Int) - b) > b then IntKind.wrap IntKind.i64 ((0 : Int) - b) else b) > if (if IntKind.wrap IntKind.i64 ((0 : Int) - a) > a then IntKind.wrap IntKind.i64 ((0 : Int) - a) else a) > (0 : Int) then if IntKind.wrap IntKind.i64 ((0 : Int) - a) > a then IntKind.wrap IntKind.i64 ((0 : Int) - a) else a else (0 : Int) then if IntKind.wrap IntKind.i64 ((0 : Int) - b) > b then IntKind.wrap IntKind.i64 ((0 : Int) - b) else b else if (if IntKind.wrap IntKind.i64 ((0 : Int) - a) > a then IntKind.wrap IntKind.i64 ((0 : Int) - a) else a) > (0 : Int) then if IntKind.wrap IntKind.i64 ((0 : Int) - a) > a then IntKind.wrap IntKind.i64 ((0 : Int) - a) else a else (0 : Int) then if IntKind.wrap IntKind.i64 ((0 : Int) - c) > c then IntKind.wrap IntKind.i64 ((0 : Int) - c) else c else if (if IntKind.wrap IntKind.i64 ((0 : Int) - b) > b then IntKind.wrap IntKind.i64 ((0 : Int) - b) else b) > if (if IntKind.wrap IntKind.i64 ((0 : Int) - a) > a then IntKind.wrap IntKind.i64 ((0 : Int) - a) else a) > (0 : Int) then if IntKind.wrap IntKind.i64 ((0 : Int) - a) > a then IntKind.wrap IntKind.i64 ((0 : Int) - a) else a else (0 : Int) then if IntKind.wrap IntKind.i64 ((0 : Int) - b) > b then IntKind.wrap IntKind.i64 ((0 : Int) - b) else b else if (if IntKind.wrap IntKind.i64 ((0 : Int) - a) > a then IntKind.wrap IntKind.i64 ((0 : Int) - a) else a) > (0 : Int) then if IntKind.wrap IntKind.i64 ((0 : Int) - a) > a then IntKind.wrap IntKind.i64 ((0 : Int) - a) else a else (0 : Int))))) := by kernel_rfl
set_option maxHeartbeats 4000000 in
theorem rdm_val (a : Int) (b : Int) (c : Int) (d : Int) : (.ret (.one (.v false (.int .i64 (bif !dval a b c d then (0 : Int) else if (if IntKind.wrap IntKind.i64 ((0 : Int) - d) > d then IntKind.wrap IntKind.i64 ((0 : Int) - d) else d) > if (if IntKind.wrap IntKind.i64 ((0 : Int) - c) > c then IntKind.wrap IntKind.i64 ((0 : Int) - c) else c) > if (if IntKind.wrap IntKind.i64 ((0 : Int) - b) > b then IntKind.wrap IntKind.i64 ((0 : Int) - b) else b) > if (if IntKind.wrap IntKind.i64 ((0 : Int) - a) > a then IntKind.wrap IntKind.i64 ((0 : Int) - a) else a) > (0 : Int) then if IntKind.wrap IntKind.i64 ((0 : Int) - a) > a then IntKind.wrap IntKind.i64 ((0 : Int) - a) else a else (0 : Int) then if IntKind.wrap IntKind.i64 ((0 : Int) - b) > b then IntKind.wrap IntKind.i64 ((0 : Int) - b) else b else if (if IntKind.wrap IntKind.i64 ((0 : Int) - a) > a then IntKind.wrap IntKind.i64 ((0 : Int) - a) else a) > (0 : Int) then if IntKind.wrap IntKind.i64 ((0 : Int) - a) > a then IntKind.wrap IntKind.i64 ((0 : Int) - a) else a else (0 : Int) then if IntKind.wrap IntKind.i64 ((0 : Int) - c) > c then IntKind.wrap IntKind.i64 ((0 : Int) - c) else c else if (if IntKind.wrap IntKind.i64 ((0 : Int) - b) > b then IntKind.wrap IntKind.i64 ((0 : Int) - b) else b) > if (if IntKind.wrap IntKind.i64 ((0 : Int) - a) > a then IntKind.wrap IntKind.i64 ((0 : Int) - a) else a) > (0 : Int) then if IntKind.wrap IntKind.i64 ((0 : Int) - a) > a then IntKind.wrap IntKind.i64 ((0 : Int) - a) else a else (0 : Int) then if IntKind.wrap IntKind.i64 ((0 : Int) - b) > b then IntKind.wrap IntKind.i64 ((0 : Int) - b) else b else if (if IntKind.wrap IntKind.i64 ((0 : Int) - a) > a then IntKind.wrap IntKind.i64 ((0 : Int) - a) else a) > (0 : Int) then if IntKind.wrap IntKind.i64 ((0 : Int) - a) > a then IntKind.wrap IntKind.i64 ((0 : Int) - a) else a else (0 : Int) then if IntKind.wrap IntKind.i64 ((0 : Int) - d) > d then IntKind.wrap IntKind.i64 ((0 : Int) - d) else d else if (if IntKind.wrap IntKind.i64 ((0 : Int) - c) > c then IntKind.wrap IntKind.i64 ((0 : Int) - c) else c) > if (if IntKind.wrap IntKind.i64 ((0 : Int) - b) > b then IntKind.wrap IntKind.i64 ((0 : Int) - b) else b) > if (if IntKind.wrap IntKind.i64 ((0 : Int) - a) > a then IntKind.wrap IntKind.i64 ((0 : Int) - a) else a) > (0 : Int) then if IntKind.wrap IntKind.i64 ((0 : Int) - a) > a then IntKind.wrap IntKind.i64 ((0 : Int) - a) else a else (0 : Int) then if IntKind.wrap IntKind.i64 ((0 : Int) - b) > b then IntKind.wrap IntKind.i64 ((0 : Int) - b) else b else if (if IntKind.wrap IntKind.i64 ((0 : Int) - a) > a then IntKind.wrap IntKind.i64 ((0 : Int) - a) else a) > (0 : Int) then if IntKind.wrap IntKind.i64 ((0 : Int) - a) > a then IntKind.wrap IntKind.i64 ((0 : Int) - a) else a else (0 : Int) then if IntKind.wrap IntKind.i64 ((0 : Int) - c) > c then IntKind.wrap IntKind.i64 ((0 : Int) - c) else c else if (if IntKind.wrap IntKind.i64 ((0 : Int) - b) > b then IntKind.wrap IntKind.i64 ((0 : Int) - b) else b) > if (if IntKind.wrap IntKind.i64 ((0 : Int) - a) > a then IntKind.wrap IntKind.i64 ((0 : Int) - a) else a) > (0 : Int) then if IntKind.wrap IntKind.i64 ((0 : Int) - a) > a then IntKind.wrap IntKind.i64 ((0 : Int) - a) else a else (0 : Int) then if IntKind.wrap IntKind.i64 ((0 : Int) - b) > b then IntKind.wrap IntKind.i64 ((0 : Int) - b) else b else if (if IntKind.wrap IntKind.i64 ((0 : Int) - a) > a then IntKind.wrap IntKind.i64 ((0 : Int) - a) else a) > (0 : Int) then if IntKind.wrap IntKind.i64 ((0 : Int) - a) > a then IntKind.wrap IntKind.i64 ((0 : Int) - a) else a else (0 : Int))))) : Tr AV).val = some (.one (.v false (.int .i64 (dom a b c d)))) := by
  refine congrArg (fun b => some (AV.one (.v false (.int .i64 b)))) ?_
  cases hv : dval a b c d
  · simp only [dom, hv]; rfl
  · obtain ⟨e0, e1, e2, e3, _⟩ := dv_iff.1 hv
    simp only [neg_w e0, neg_w e1, neg_w e2, neg_w e3, Bool.not_true, cond_false]
    show mx (mx (mx (mx 0 (mx a (0 - a))) (mx b (0 - b))) (mx c (0 - c))) (mx d (0 - d)) = _
    simp only [dom, if_pos hv, mx_assoc]
noncomputable def rdm_g : List AV → Option (Tr AV)
  | [.ag [.v _ (.int .i64 a), .v _ (.int .i64 b), .v _ (.int .i64 c), .v _ (.int .i64 d)]] => some (.ret (.one (.v false (.int .i64 (dom a b c d)))))
  | _ => none
set_option maxHeartbeats 4000000 in
theorem rdm_ok : FunOK Try.prog 23 rdm_g := by
  refine fun_ok (by kernel_rfl) (puA_S53_ok) (L0_ok _) 9 (On := (opens [45])) (fun args t h => ?_)
  unfold rdm_g at h
  split at h
  · rename_i _ a _ b _ c _ d
    simp only [Option.some.injEq] at h
    subst h
    refine ⟨[.ag [.v false (.int .i64 a), .v false (.int .i64 b), .v false (.int .i64 c), .v false (.int .i64 d)]], rfl, fun fr w us h => h, fun r hr => ?_⟩
    simp only [Tr.val, Option.some.injEq] at hr
    subst hr
    rw [rdm_tree]
    exact rdm_val a b c d
  · cases h
noncomputable def puA_S54 : Sums := addS 23 rdm_g puA_S53
theorem puA_S54_ok : SumOK Try.prog puA_S54 := addS_ok (rdm_ok) (puA_S53_ok)
set_option maxRecDepth 100000 in
theorem av_tree (a : Int) (b : Int) (c : Int) (d : Int) (ac : Int) (en : Int) (cr : Int) (ex : Int) : evalF Try.prog puA_S54 (opens [45]) L0 9 27 [.ag [.v false (.int .i64 a), .v false (.int .i64 b), .v false (.int .i64 c), .v false (.int .i64 d), .v false (.int .i64 ac), .v false (.int .i64 en), .v false (.int .i64 cr), .v false (.int .i64 ex)]] = .ret (.one (.v false (.bool (bif bif bif bif dval a b c d then bif decide (ac ≥ (1 : Int)) then decide (ac ≤ (16777216 : Int)) else false else false then bif decide (cr ≥ (1 : Int)) then decide (cr ≤ (1099511627776 : Int)) else false else false then decide ((if ex < en then ex else en) ≥ (0 : Int)) else false then decide ((if ex > en then ex else en) ≤ cr) else false)))) := by kernel_rfl
set_option maxHeartbeats 4000000 in
theorem av_val (a : Int) (b : Int) (c : Int) (d : Int) (ac : Int) (en : Int) (cr : Int) (ex : Int) : (.ret (.one (.v false (.bool (bif bif bif bif dval a b c d then bif decide (ac ≥ (1 : Int)) then decide (ac ≤ (16777216 : Int)) else false else false then bif decide (cr ≥ (1 : Int)) then decide (cr ≤ (1099511627776 : Int)) else false else false then decide ((if ex < en then ex else en) ≥ (0 : Int)) else false then decide ((if ex > en then ex else en) ≤ cr) else false)))) : Tr AV).val = some (.one (.v false (.bool (bval a b c d ac en cr ex)))) := by
  refine congrArg (fun b => some (AV.one (.v false (.bool b)))) ?_
  rw [Bool.eq_iff_iff, bv_iff]
  simp only [Bool.cond_eq_ite]
  cases dval a b c d
  · simp
  · by_cases z1 : ex < en <;> by_cases z2 : ex > en <;> simp only [z1, z2, if_true, if_false] <;> constructor <;> intro h <;> simp at h ⊢ <;> omega
noncomputable def av_g : List AV → Option (Tr AV)
  | [.ag [.v _ (.int .i64 a), .v _ (.int .i64 b), .v _ (.int .i64 c), .v _ (.int .i64 d), .v _ (.int .i64 ac), .v _ (.int .i64 en), .v _ (.int .i64 cr), .v _ (.int .i64 ex)]] => some (.ret (.one (.v false (.bool (bval a b c d ac en cr ex)))))
  | _ => none
set_option maxHeartbeats 4000000 in
theorem av_ok : FunOK Try.prog 27 av_g := by
  refine fun_ok (by kernel_rfl) (puA_S54_ok) (L0_ok _) 9 (On := (opens [45])) (fun args t h => ?_)
  unfold av_g at h
  split at h
  · rename_i _ a _ b _ c _ d _ ac _ en _ cr _ ex
    simp only [Option.some.injEq] at h
    subst h
    refine ⟨[.ag [.v false (.int .i64 a), .v false (.int .i64 b), .v false (.int .i64 c), .v false (.int .i64 d), .v false (.int .i64 ac), .v false (.int .i64 en), .v false (.int .i64 cr), .v false (.int .i64 ex)]], rfl, fun fr w us h => h, fun r hr => ?_⟩
    simp only [Tr.val, Option.some.injEq] at hr
    subst hr
    rw [av_tree]
    exact av_val a b c d ac en cr ex
  · cases h
noncomputable def puA_S55 : Sums := addS 27 av_g puA_S54
theorem puA_S55_ok : SumOK Try.prog puA_S55 := addS_ok (av_ok) (puA_S54_ok)
set_option maxRecDepth 100000 in
theorem rav_tree (a : Int) (b : Int) (c : Int) (d : Int) (ac : Int) (en : Int) (cr : Int) (ex : Int) : evalF Try.prog puA_S55 (opens [45]) L0 9 26 [.ag [.v false (.int .i64 a), .v false (.int .i64 b), .v false (.int .i64 c), .v false (.int .i64 d), .v false (.int .i64 ac), .v false (.int .i64 en), .v false (.int .i64 cr), .v false (.int .i64 ex)]] = .ret (.one (.v false (.bool (bif bif bif bif bif bif bif bif dval a b c d then decide (ac ≥ (1 : Int)) else false then decide (ac ≤ (16777216 : Int)) else false then decide (cr ≥ (1 : Int)) else false then decide (cr ≤ (1099511627776 : Int)) else false then decide (en ≥ (0 : Int)) else false then decide (en ≤ cr) else false then decide (ex ≥ (0 : Int)) else false then decide (ex ≤ cr) else false)))) := by kernel_rfl
set_option maxHeartbeats 4000000 in
theorem rav_val (a : Int) (b : Int) (c : Int) (d : Int) (ac : Int) (en : Int) (cr : Int) (ex : Int) : (.ret (.one (.v false (.bool (bif bif bif bif bif bif bif bif dval a b c d then decide (ac ≥ (1 : Int)) else false then decide (ac ≤ (16777216 : Int)) else false then decide (cr ≥ (1 : Int)) else false then decide (cr ≤ (1099511627776 : Int)) else false then decide (en ≥ (0 : Int)) else false then decide (en ≤ cr) else false then decide (ex ≥ (0 : Int)) else false then decide (ex ≤ cr) else false)))) : Tr AV).val = some (.one (.v false (.bool (bval a b c d ac en cr ex)))) := by
  refine congrArg (fun b => some (AV.one (.v false (.bool b)))) ?_
  rw [Bool.eq_iff_iff, bv_iff]
  simp only [Bool.cond_eq_ite]
  cases dval a b c d
  · simp
  · by_cases z1 : ex < en <;> by_cases z2 : ex > en <;> simp only [z1, z2, if_true, if_false] <;> constructor <;> intro h <;> simp at h ⊢ <;> omega
noncomputable def rav_g : List AV → Option (Tr AV)
  | [.ag [.v _ (.int .i64 a), .v _ (.int .i64 b), .v _ (.int .i64 c), .v _ (.int .i64 d), .v _ (.int .i64 ac), .v _ (.int .i64 en), .v _ (.int .i64 cr), .v _ (.int .i64 ex)]] => some (.ret (.one (.v false (.bool (bval a b c d ac en cr ex)))))
  | _ => none
set_option maxHeartbeats 4000000 in
theorem rav_ok : FunOK Try.prog 26 rav_g := by
  refine fun_ok (by kernel_rfl) (puA_S55_ok) (L0_ok _) 9 (On := (opens [45])) (fun args t h => ?_)
  unfold rav_g at h
  split at h
  · rename_i _ a _ b _ c _ d _ ac _ en _ cr _ ex
    simp only [Option.some.injEq] at h
    subst h
    refine ⟨[.ag [.v false (.int .i64 a), .v false (.int .i64 b), .v false (.int .i64 c), .v false (.int .i64 d), .v false (.int .i64 ac), .v false (.int .i64 en), .v false (.int .i64 cr), .v false (.int .i64 ex)]], rfl, fun fr w us h => h, fun r hr => ?_⟩
    simp only [Tr.val, Option.some.injEq] at hr
    subst hr
    rw [rav_tree]
    exact rav_val a b c d ac en cr ex
  · cases h
noncomputable def puA_S56 : Sums := addS 26 rav_g puA_S55
theorem puA_S56_ok : SumOK Try.prog puA_S56 := addS_ok (rav_ok) (puA_S55_ok)
def ivl (z t : Int) : Int := bif decide (1 ≤ z) && (decide (1 ≤ t) && decide (t ≤ 1048576)) then (t + (rt z).1 - 1) / (rt z).1 else 0
theorem mul_box {x y X Y : Int} (h : 0 ≤ x ∧ x ≤ X) (g : 0 ≤ y ∧ y ≤ Y) : 0 ≤ x * y ∧ x * y ≤ X * Y :=
  ⟨Int.mul_nonneg h.1 g.1, Int.mul_le_mul h.2 g.2 g.1 (by omega)⟩
theorem sq_in {a b c d ac en cr ex i : Int} (hv : bval a b c d ac en cr ex = true) (h1 : 1 ≤ i) (h2 : i ≤ dom a b c d) : sq a b c d ac en cr ex i = min cr (min (en + 2 * ac * i) (ex + 2 * ac * (dom a b c d + 1 - i))) ∧ (0 ≤ 2 * ac * i ∧ 2 * ac * i ≤ 33554432 * 16777216) ∧ (0 ≤ 2 * ac * (dom a b c d + 1 - i) ∧ 2 * ac * (dom a b c d + 1 - i) ≤ 33554432 * 16777216) ∧ 1 ≤ sq a b c d ac en cr ex i ∧ sq a b c d ac en cr ex i ≤ cr := by
  have k := bv_iff.1 hv
  have D := dom_in a b c d
  have e : sq a b c d ac en cr ex i = min cr (min (en + 2 * ac * i) (ex + 2 * ac * (dom a b c d + 1 - i))) := by
    unfold sq
    rw [hv, decide_eq_true h1, decide_eq_true h2]; rfl
  generalize dom a b c d = n at *
  have m1 := mul_box (x := 2 * ac) (y := i) (X := 33554432) (Y := 16777216) ⟨by omega, by omega⟩ ⟨by omega, by omega⟩
  have m2 := mul_box (x := 2 * ac) (y := n + 1 - i) (X := 33554432) (Y := 16777216) ⟨by omega, by omega⟩ ⟨by omega, by omega⟩
  have m3 : 2 * ac * 1 ≤ 2 * ac * i := Int.mul_le_mul_of_nonneg_left h1 (by omega)
  have m4 : 2 * ac * 1 ≤ 2 * ac * (n + 1 - i) := Int.mul_le_mul_of_nonneg_left (by omega) (by omega)
  rw [e]
  generalize 2 * ac * i = x at *
  generalize 2 * ac * (n + 1 - i) = y at *
  omega
theorem sq_out {a b c d ac en cr ex i : Int} (h : ¬ (bval a b c d ac en cr ex = true ∧ 1 ≤ i ∧ i ≤ dom a b c d)) : sq a b c d ac en cr ex i = 0 := by
  unfold sq
  have : (bval a b c d ac en cr ex && (decide (1 ≤ i) && decide (i ≤ dom a b c d))) = false := by
    rw [← Bool.not_eq_true]; intro hh; simp at hh; exact h hh
  rw [this]; rfl
theorem sq_nonneg (a b c d ac en cr ex i : Int) : 0 ≤ sq a b c d ac en cr ex i ∧ sq a b c d ac en cr ex i ≤ 1099511627776 ∧ ((sq a b c d ac en cr ex i == 0) = true ↔ ¬ (bval a b c d ac en cr ex = true ∧ 1 ≤ i ∧ i ≤ dom a b c d)) := by
  by_cases h : bval a b c d ac en cr ex = true ∧ 1 ≤ i ∧ i ≤ dom a b c d
  · obtain ⟨_, _, _, h1, h2⟩ := sq_in h.1 h.2.1 h.2.2
    have := bv_iff.1 h.1
    refine ⟨by omega, by omega, ?_⟩
    simp only [h, not_true, and_self, iff_false, beq_iff_eq]; omega
  · rw [sq_out h]; simp only [h, not_false_iff]; simp
theorem sq_raw {a b c d ac en cr ex i : Int} : (bif bif bif !bval a b c d ac en cr ex then true else decide (i < (1 : Int)) then true else decide (i > dom a b c d) then (0 : Int) else if IntKind.wrap IntKind.i64 (ex + IntKind.wrap IntKind.i64 (IntKind.wrap IntKind.i64 ((2 : Int) * ac) * IntKind.wrap IntKind.i64 (IntKind.wrap IntKind.i64 (dom a b c d + (1 : Int)) - i))) < if IntKind.wrap IntKind.i64 (en + IntKind.wrap IntKind.i64 (IntKind.wrap IntKind.i64 ((2 : Int) * ac) * i)) < cr then IntKind.wrap IntKind.i64 (en + IntKind.wrap IntKind.i64 (IntKind.wrap IntKind.i64 ((2 : Int) * ac) * i)) else cr then IntKind.wrap IntKind.i64 (ex + IntKind.wrap IntKind.i64 (IntKind.wrap IntKind.i64 ((2 : Int) * ac) * IntKind.wrap IntKind.i64 (IntKind.wrap IntKind.i64 (dom a b c d + (1 : Int)) - i))) else if IntKind.wrap IntKind.i64 (en + IntKind.wrap IntKind.i64 (IntKind.wrap IntKind.i64 ((2 : Int) * ac) * i)) < cr then IntKind.wrap IntKind.i64 (en + IntKind.wrap IntKind.i64 (IntKind.wrap IntKind.i64 ((2 : Int) * ac) * i)) else cr) = sq a b c d ac en cr ex i := by
  by_cases h : bval a b c d ac en cr ex = true ∧ 1 ≤ i ∧ i ≤ dom a b c d
  · obtain ⟨h0, h1, h2⟩ := h
    have t : (bif bif !bval a b c d ac en cr ex then true else decide (i < (1 : Int)) then true else decide (i > dom a b c d)) = false := by
      rw [h0]; simp; omega
    rw [t, cond_false]
    obtain ⟨e, m1, m2, _, _⟩ := sq_in h0 h1 h2
    have k := bv_iff.1 h0
    have D := dom_in a b c d
    rw [e]
    generalize dom a b c d = n at *
    have w1 : IntKind.wrap IntKind.i64 ((2 : Int) * ac) = 2 * ac := IntWalk.i64_in _ ⟨by omega, by omega⟩
    have w2 : IntKind.wrap IntKind.i64 (n + (1 : Int)) = n + 1 := IntWalk.i64_in _ ⟨by omega, by omega⟩
    have w3 : IntKind.wrap IntKind.i64 (n + 1 - i) = n + 1 - i := IntWalk.i64_in _ ⟨by omega, by omega⟩
    rw [w1, w2, w3]
    generalize 2 * ac * i = x at *
    generalize 2 * ac * (n + 1 - i) = y at *
    have w4 : IntKind.wrap IntKind.i64 x = x := IntWalk.i64_in _ ⟨by omega, by omega⟩
    have w5 : IntKind.wrap IntKind.i64 y = y := IntWalk.i64_in _ ⟨by omega, by omega⟩
    rw [w4, w5]
    have w6 : IntKind.wrap IntKind.i64 (en + x) = en + x := IntWalk.i64_in _ ⟨by omega, by omega⟩
    have w7 : IntKind.wrap IntKind.i64 (ex + y) = ex + y := IntWalk.i64_in _ ⟨by omega, by omega⟩
    rw [w6, w7]
    split <;> split <;> omega
  · rw [sq_out h]
    have t : (bif bif !bval a b c d ac en cr ex then true else decide (i < (1 : Int)) then true else decide (i > dom a b c d)) = true := by
      cases hb : bval a b c d ac en cr ex
      · rfl
      · simp [hb] at h ⊢; omega
    rw [t]; rfl
theorem or3 {α : Type} (p q r : Bool) (x y : α) : (bif p then x else bif bif q then true else r then x else y) = (bif bif bif p then true else q then true else r then x else y) := by
  cases p <;> cases q <;> cases r <;> rfl
set_option maxRecDepth 100000 in
theorem sqa_tree (a : Int) (b : Int) (c : Int) (d : Int) (ac : Int) (en : Int) (cr : Int) (ex : Int) (i : Int) : evalF Try.prog puA_S56 (opens [45]) L0 9 38 [.ag [.v false (.int .i64 a), .v false (.int .i64 b), .v false (.int .i64 c), .v false (.int .i64 d), .v false (.int .i64 ac), .v false (.int .i64 en), .v false (.int .i64 cr), .v false (.int .i64 ex)], .one (.v false (.int .i64 i))] = .ret (.one (.v false (.int .i64 (bif bif bif !bval a b c d ac en cr ex then true else decide (i < (1 : Int)) then true else decide (i > dom a b c d) then (0 : Int) else if IntKind.wrap IntKind.i64 (ex + IntKind.wrap IntKind.i64 (IntKind.wrap IntKind.i64 ((2 : Int) * ac) * IntKind.wrap IntKind.i64 (IntKind.wrap IntKind.i64 (dom a b c d + (1 : Int)) - i))) < if IntKind.wrap IntKind.i64 (en + IntKind.wrap IntKind.i64 (IntKind.wrap IntKind.i64 ((2 : Int) * ac) * i)) < cr then IntKind.wrap IntKind.i64 (en + IntKind.wrap IntKind.i64 (IntKind.wrap IntKind.i64 ((2 : Int) * ac) * i)) else cr then IntKind.wrap IntKind.i64 (ex + IntKind.wrap IntKind.i64 (IntKind.wrap IntKind.i64 ((2 : Int) * ac) * IntKind.wrap IntKind.i64 (IntKind.wrap IntKind.i64 (dom a b c d + (1 : Int)) - i))) else if IntKind.wrap IntKind.i64 (en + IntKind.wrap IntKind.i64 (IntKind.wrap IntKind.i64 ((2 : Int) * ac) * i)) < cr then IntKind.wrap IntKind.i64 (en + IntKind.wrap IntKind.i64 (IntKind.wrap IntKind.i64 ((2 : Int) * ac) * i)) else cr)))) := by kernel_rfl
set_option maxHeartbeats 4000000 in
theorem sqa_val (a : Int) (b : Int) (c : Int) (d : Int) (ac : Int) (en : Int) (cr : Int) (ex : Int) (i : Int) : (.ret (.one (.v false (.int .i64 (bif bif bif !bval a b c d ac en cr ex then true else decide (i < (1 : Int)) then true else decide (i > dom a b c d) then (0 : Int) else if IntKind.wrap IntKind.i64 (ex + IntKind.wrap IntKind.i64 (IntKind.wrap IntKind.i64 ((2 : Int) * ac) * IntKind.wrap IntKind.i64 (IntKind.wrap IntKind.i64 (dom a b c d + (1 : Int)) - i))) < if IntKind.wrap IntKind.i64 (en + IntKind.wrap IntKind.i64 (IntKind.wrap IntKind.i64 ((2 : Int) * ac) * i)) < cr then IntKind.wrap IntKind.i64 (en + IntKind.wrap IntKind.i64 (IntKind.wrap IntKind.i64 ((2 : Int) * ac) * i)) else cr then IntKind.wrap IntKind.i64 (ex + IntKind.wrap IntKind.i64 (IntKind.wrap IntKind.i64 ((2 : Int) * ac) * IntKind.wrap IntKind.i64 (IntKind.wrap IntKind.i64 (dom a b c d + (1 : Int)) - i))) else if IntKind.wrap IntKind.i64 (en + IntKind.wrap IntKind.i64 (IntKind.wrap IntKind.i64 ((2 : Int) * ac) * i)) < cr then IntKind.wrap IntKind.i64 (en + IntKind.wrap IntKind.i64 (IntKind.wrap IntKind.i64 ((2 : Int) * ac) * i)) else cr)))) : Tr AV).val = some (.one (.v false (.int .i64 (sq a b c d ac en cr ex i)))) := by
  refine congrArg (fun b => some (AV.one (.v false (.int .i64 b)))) ?_
  exact sq_raw
noncomputable def sqa_g : List AV → Option (Tr AV)
  | [.ag [.v _ (.int .i64 a), .v _ (.int .i64 b), .v _ (.int .i64 c), .v _ (.int .i64 d), .v _ (.int .i64 ac), .v _ (.int .i64 en), .v _ (.int .i64 cr), .v _ (.int .i64 ex)], .one (.v _ (.int .i64 i))] => some (.ret (.one (.v false (.int .i64 (sq a b c d ac en cr ex i)))))
  | _ => none
set_option maxHeartbeats 4000000 in
theorem sqa_ok : FunOK Try.prog 38 sqa_g := by
  refine fun_ok (by kernel_rfl) (puA_S56_ok) (L0_ok _) 9 (On := (opens [45])) (fun args t h => ?_)
  unfold sqa_g at h
  split at h
  · rename_i _ a _ b _ c _ d _ ac _ en _ cr _ ex _ i
    simp only [Option.some.injEq] at h
    subst h
    refine ⟨[.ag [.v false (.int .i64 a), .v false (.int .i64 b), .v false (.int .i64 c), .v false (.int .i64 d), .v false (.int .i64 ac), .v false (.int .i64 en), .v false (.int .i64 cr), .v false (.int .i64 ex)], .one (.v false (.int .i64 i))], rfl, fun fr w us h => h, fun r hr => ?_⟩
    simp only [Tr.val, Option.some.injEq] at hr
    subst hr
    rw [sqa_tree]
    exact sqa_val a b c d ac en cr ex i
  · cases h
noncomputable def puA_S57 : Sums := addS 38 sqa_g puA_S56
theorem puA_S57_ok : SumOK Try.prog puA_S57 := addS_ok (sqa_ok) (puA_S56_ok)
set_option maxRecDepth 100000 in
theorem sqb_tree (a : Int) (b : Int) (c : Int) (d : Int) (ac : Int) (en : Int) (cr : Int) (ex : Int) (i : Int) : evalF Try.prog puA_S57 (opens [45]) L0 9 34 [.ag [.v false (.int .i64 a), .v false (.int .i64 b), .v false (.int .i64 c), .v false (.int .i64 d), .v false (.int .i64 ac), .v false (.int .i64 en), .v false (.int .i64 cr), .v false (.int .i64 ex)], .one (.v false (.int .i64 i))] = .ret (.one (.v false (.int .i64 (bif !bval a b c d ac en cr ex then (0 : Int) else bif bif decide (i < (1 : Int)) then true else decide (i > dom a b c d) then (0 : Int) else if IntKind.wrap IntKind.i64 (ex + IntKind.wrap IntKind.i64 (IntKind.wrap IntKind.i64 ((2 : Int) * ac) * IntKind.wrap IntKind.i64 (IntKind.wrap IntKind.i64 (dom a b c d + (1 : Int)) - i))) < if IntKind.wrap IntKind.i64 (en + IntKind.wrap IntKind.i64 (IntKind.wrap IntKind.i64 ((2 : Int) * ac) * i)) < cr then IntKind.wrap IntKind.i64 (en + IntKind.wrap IntKind.i64 (IntKind.wrap IntKind.i64 ((2 : Int) * ac) * i)) else cr then IntKind.wrap IntKind.i64 (ex + IntKind.wrap IntKind.i64 (IntKind.wrap IntKind.i64 ((2 : Int) * ac) * IntKind.wrap IntKind.i64 (IntKind.wrap IntKind.i64 (dom a b c d + (1 : Int)) - i))) else if IntKind.wrap IntKind.i64 (en + IntKind.wrap IntKind.i64 (IntKind.wrap IntKind.i64 ((2 : Int) * ac) * i)) < cr then IntKind.wrap IntKind.i64 (en + IntKind.wrap IntKind.i64 (IntKind.wrap IntKind.i64 ((2 : Int) * ac) * i)) else cr)))) := by kernel_rfl
set_option maxHeartbeats 4000000 in
theorem sqb_val (a : Int) (b : Int) (c : Int) (d : Int) (ac : Int) (en : Int) (cr : Int) (ex : Int) (i : Int) : (.ret (.one (.v false (.int .i64 (bif !bval a b c d ac en cr ex then (0 : Int) else bif bif decide (i < (1 : Int)) then true else decide (i > dom a b c d) then (0 : Int) else if IntKind.wrap IntKind.i64 (ex + IntKind.wrap IntKind.i64 (IntKind.wrap IntKind.i64 ((2 : Int) * ac) * IntKind.wrap IntKind.i64 (IntKind.wrap IntKind.i64 (dom a b c d + (1 : Int)) - i))) < if IntKind.wrap IntKind.i64 (en + IntKind.wrap IntKind.i64 (IntKind.wrap IntKind.i64 ((2 : Int) * ac) * i)) < cr then IntKind.wrap IntKind.i64 (en + IntKind.wrap IntKind.i64 (IntKind.wrap IntKind.i64 ((2 : Int) * ac) * i)) else cr then IntKind.wrap IntKind.i64 (ex + IntKind.wrap IntKind.i64 (IntKind.wrap IntKind.i64 ((2 : Int) * ac) * IntKind.wrap IntKind.i64 (IntKind.wrap IntKind.i64 (dom a b c d + (1 : Int)) - i))) else if IntKind.wrap IntKind.i64 (en + IntKind.wrap IntKind.i64 (IntKind.wrap IntKind.i64 ((2 : Int) * ac) * i)) < cr then IntKind.wrap IntKind.i64 (en + IntKind.wrap IntKind.i64 (IntKind.wrap IntKind.i64 ((2 : Int) * ac) * i)) else cr)))) : Tr AV).val = some (.one (.v false (.int .i64 (sq a b c d ac en cr ex i)))) := by
  refine congrArg (fun b => some (AV.one (.v false (.int .i64 b)))) ?_
  rw [or3]
  exact sq_raw
noncomputable def sqb_g : List AV → Option (Tr AV)
  | [.ag [.v _ (.int .i64 a), .v _ (.int .i64 b), .v _ (.int .i64 c), .v _ (.int .i64 d), .v _ (.int .i64 ac), .v _ (.int .i64 en), .v _ (.int .i64 cr), .v _ (.int .i64 ex)], .one (.v _ (.int .i64 i))] => some (.ret (.one (.v false (.int .i64 (sq a b c d ac en cr ex i)))))
  | _ => none
set_option maxHeartbeats 4000000 in
theorem sqb_ok : FunOK Try.prog 34 sqb_g := by
  refine fun_ok (by kernel_rfl) (puA_S57_ok) (L0_ok _) 9 (On := (opens [45])) (fun args t h => ?_)
  unfold sqb_g at h
  split at h
  · rename_i _ a _ b _ c _ d _ ac _ en _ cr _ ex _ i
    simp only [Option.some.injEq] at h
    subst h
    refine ⟨[.ag [.v false (.int .i64 a), .v false (.int .i64 b), .v false (.int .i64 c), .v false (.int .i64 d), .v false (.int .i64 ac), .v false (.int .i64 en), .v false (.int .i64 cr), .v false (.int .i64 ex)], .one (.v false (.int .i64 i))], rfl, fun fr w us h => h, fun r hr => ?_⟩
    simp only [Tr.val, Option.some.injEq] at hr
    subst hr
    rw [sqb_tree]
    exact sqb_val a b c d ac en cr ex i
  · cases h
noncomputable def puA_S58 : Sums := addS 34 sqb_g puA_S57
theorem puA_S58_ok : SumOK Try.prog puA_S58 := addS_ok (sqb_ok) (puA_S57_ok)
noncomputable def isa_g : List AV → Option (Tr AV)
  | [.one (.v _ (.int .i64 n))] => some (.br (decide (-9223372036854775808 ≤ n) && decide (n ≤ 9223372036854775807)) (.ret (.tup [(false, [.v false (.int .i64 (rt n).1)]), (false, [.v false (.int .i64 (rt n).2)])])) (.bad 900))
  | _ => none
set_option maxHeartbeats 4000000 in
theorem isa_ok : FunOK Try.prog 46 isa_g := by
  refine fun_of_calls fun args t h r hr fr w us hus => ?_
  unfold isa_g at h
  split at h
  · rename_i _ n
    simp only [Option.some.injEq] at h
    subst h
    obtain ⟨hc, hr⟩ := br_bad hr
    simp only [Tr.val, Option.some.injEq] at hr
    subst hr
    obtain ⟨_, _, rfl, e0, rfl⟩ := hus
    cases e0
    exact ⟨_, (num_Isqrt n (by simp at hc; omega) (by simp at hc; omega) w).mono fun e w' h => ⟨h.1, h.2 ▸ Ext.refl _⟩, fun _ _ => tup2_is, rfl⟩
  · cases h
noncomputable def puA_S59 : Sums := addS 46 isa_g puA_S58
theorem puA_S59_ok : SumOK Try.prog puA_S59 := addS_ok (isa_ok) (puA_S58_ok)
noncomputable def isb_g : List AV → Option (Tr AV)
  | [.one (.v _ (.int .i64 n))] => some (.br (decide (-9223372036854775808 ≤ n) && decide (n ≤ 9223372036854775807)) (.ret (.tup [(false, [.v false (.int .i64 (rt n).1)]), (false, [.v false (.int .i64 (rt n).2)])])) (.bad 900))
  | _ => none
set_option maxHeartbeats 4000000 in
theorem isb_ok : FunOK Try.prog 35 isb_g := by
  refine fun_of_calls fun args t h r hr fr w us hus => ?_
  unfold isb_g at h
  split at h
  · rename_i _ n
    simp only [Option.some.injEq] at h
    subst h
    obtain ⟨hc, hr⟩ := br_bad hr
    simp only [Tr.val, Option.some.injEq] at hr
    subst hr
    obtain ⟨_, _, rfl, e0, rfl⟩ := hus
    cases e0
    exact ⟨_, (ref_Isqrt n (by simp at hc; omega) (by simp at hc; omega) w).mono fun e w' h => ⟨h.1, h.2 ▸ Ext.refl _⟩, fun _ _ => tup2_is, rfl⟩
  · cases h
noncomputable def puA_S60 : Sums := addS 35 isb_g puA_S59
theorem puA_S60_ok : SumOK Try.prog puA_S60 := addS_ok (isb_ok) (puA_S59_ok)
theorem rt_in {z : Int} (h1 : 1 ≤ z) (h2 : z ≤ 1099511627776) : 1 ≤ (rt z).1 ∧ (rt z).1 ≤ 1048576 := by
  obtain ⟨r, r0, r1, r2, e⟩ := rt_of (n := z) (by omega)
  rw [e]
  show 1 ≤ r ∧ r ≤ 1048576
  refine ⟨?_, le_of_sq (b := 1048576) (by omega) (by omega)⟩
  by_cases hr : r = 0
  · subst hr; omega
  · omega
theorem rt_mono {y z : Int} (h1 : 0 ≤ y) (h2 : y ≤ z) : (rt y).1 ≤ (rt z).1 := by
  obtain ⟨r, r0, r1, r2, e⟩ := rt_of (n := y) h1
  obtain ⟨s, s0, s1, s2, g⟩ := rt_of (n := z) (by omega)
  rw [e, g]
  show r ≤ s
  exact le_of_sq (by omega) s0
theorem ivl_raw {z t : Int} (h : 0 ≤ z ∧ z ≤ 1099511627776) : (decide (1 ≤ z) && (decide (1 ≤ t) && decide (t ≤ 1048576))) = true → (decide ((-9223372036854775808 : Int) ≤ z) && decide (z ≤ (9223372036854775807 : Int))) = true ∧ ((rt z).1 != (0 : Int)) = true ∧ IntKind.wrap IntKind.i64 (Int.tdiv (IntKind.wrap IntKind.i64 (IntKind.wrap IntKind.i64 (t + Prod.fst (rt z)) - (1 : Int))) (Prod.fst (rt z))) = ivl z t := by
  intro hq
  have hq' := hq
  simp only [Bool.and_eq_true, decide_eq_true_eq] at hq'
  have hr := rt_in hq'.1 h.2
  unfold ivl
  rw [hq, cond_true]
  generalize (rt z).1 = v at *
  have w1 : IntKind.wrap IntKind.i64 (t + v) = t + v := IntWalk.i64_in _ ⟨by omega, by omega⟩
  have w2 : IntKind.wrap IntKind.i64 (t + v - 1) = t + v - 1 := IntWalk.i64_in _ ⟨by omega, by omega⟩
  rw [w1, w2, Int.tdiv_eq_ediv_of_nonneg (by omega)]
  have q0 : 0 ≤ (t + v - 1) / v := Int.ediv_nonneg (by omega) (by omega)
  have q1 : (t + v - 1) / v ≤ t + v - 1 := Int.ediv_le_self _ (by omega)
  refine ⟨by simp; omega, by simp; omega, IntWalk.i64_in _ ⟨by omega, by omega⟩⟩
theorem ivl_out {z t : Int} (h : (decide (1 ≤ z) && (decide (1 ≤ t) && decide (t ≤ 1048576))) = false) : ivl z t = 0 := by
  unfold ivl; rw [h]; rfl
theorem ivl_in {z t : Int} (hz : 1 ≤ z) (hz' : z ≤ 1099511627776) (h1 : 1 ≤ t) (h2 : t ≤ 1048576) : ivl z t = (t + (rt z).1 - 1) / (rt z).1 ∧ 1 ≤ ivl z t ∧ ivl z t ≤ t ∧ t ≤ ivl z t * (rt z).1 := by
  have e : ivl z t = (t + (rt z).1 - 1) / (rt z).1 := by
    unfold ivl; rw [decide_eq_true hz, decide_eq_true h1, decide_eq_true h2]; rfl
  have hr := rt_in hz hz'
  rw [e]
  generalize (rt z).1 = v at *
  refine ⟨rfl, ?_, ?_, ?_⟩
  · exact Int.le_ediv_of_mul_le (by omega) (by omega)
  · refine Int.lt_add_one_iff.1 (Int.ediv_lt_of_lt_mul (by omega) ?_)
    have : t * v + v = (t + 1) * v := by grind
    have p : 0 ≤ (t - 1) * (v - 1) := Int.mul_nonneg (by omega) (by omega)
    have : (t - 1) * (v - 1) = t * v - t - v + 1 := by grind
    omega
  · have := Int.mul_ediv_add_emod (t + v - 1) v
    have := Int.emod_lt_of_pos (t + v - 1) (b := v) (by omega)
    have : v * ((t + v - 1) / v) = (t + v - 1) / v * v := Int.mul_comm _ _
    omega
theorem ivl_anti {y z t : Int} (hy : 1 ≤ y) (hz : y ≤ z) (hz' : z ≤ 1099511627776) (h1 : 1 ≤ t) (h2 : t ≤ 1048576) : ivl z t ≤ ivl y t := by
  obtain ⟨e1, a1, b1, c1⟩ := ivl_in hy (by omega) h1 h2
  obtain ⟨e2, a2, b2, c2⟩ := ivl_in (z := z) (by omega) hz' h1 h2
  have hm := rt_mono (y := y) (z := z) (by omega) hz
  have hr := rt_in (z := z) (by omega) hz'
  rw [e2]
  refine Int.lt_add_one_iff.1 (Int.ediv_lt_of_lt_mul (by omega) ?_)
  have : ivl y t * (rt y).1 ≤ ivl y t * (rt z).1 := Int.mul_le_mul_of_nonneg_left hm (by omega)
  have : (ivl y t + 1) * (rt z).1 = ivl y t * (rt z).1 + (rt z).1 := by grind
  omega
set_option maxRecDepth 100000 in
theorem ita_tree (a : Int) (b : Int) (c : Int) (d : Int) (ac : Int) (en : Int) (cr : Int) (ex : Int) (i : Int) (t : Int) : evalF Try.prog puA_S60 (opens [45]) L0 9 24 [.ag [.v false (.int .i64 a), .v false (.int .i64 b), .v false (.int .i64 c), .v false (.int .i64 d), .v false (.int .i64 ac), .v false (.int .i64 en), .v false (.int .i64 cr), .v false (.int .i64 ex)], .one (.v false (.int .i64 i)), .one (.v false (.int .i64 t))] = .br ((bif bif sq a b c d ac en cr ex i == (0 : Int) then true else !bif decide (t ≥ (1 : Int)) then decide (t ≤ (1048576 : Int)) else false then true else (((decide ((-9223372036854775808 : Int) ≤ sq a b c d ac en cr ex i) && decide (sq a b c d ac en cr ex i ≤ (9223372036854775807 : Int))) && (Prod.fst (rt (sq a b c d ac en cr ex i)) != (0 : Int)))))) (.ret (.one (.v false (.int .i64 (bif bif sq a b c d ac en cr ex i == (0 : Int) then true else !bif decide (t ≥ (1 : Int)) then decide (t ≤ (1048576 : Int)) else false then (0 : Int) else IntKind.wrap IntKind.i64 (Int.tdiv (IntKind.wrap IntKind.i64 (IntKind.wrap IntKind.i64 (t + Prod.fst (rt (sq a b c d ac en cr ex i))) - (1 : Int))) (Prod.fst (rt (sq a b c d ac en cr ex i))))))))) (.bad 116) := by kernel_rfl
set_option maxHeartbeats 4000000 in
theorem ita_val (a : Int) (b : Int) (c : Int) (d : Int) (ac : Int) (en : Int) (cr : Int) (ex : Int) (i : Int) (t : Int) : (.br ((bif bif sq a b c d ac en cr ex i == (0 : Int) then true else !bif decide (t ≥ (1 : Int)) then decide (t ≤ (1048576 : Int)) else false then true else (((decide ((-9223372036854775808 : Int) ≤ sq a b c d ac en cr ex i) && decide (sq a b c d ac en cr ex i ≤ (9223372036854775807 : Int))) && (Prod.fst (rt (sq a b c d ac en cr ex i)) != (0 : Int)))))) (.ret (.one (.v false (.int .i64 (bif bif sq a b c d ac en cr ex i == (0 : Int) then true else !bif decide (t ≥ (1 : Int)) then decide (t ≤ (1048576 : Int)) else false then (0 : Int) else IntKind.wrap IntKind.i64 (Int.tdiv (IntKind.wrap IntKind.i64 (IntKind.wrap IntKind.i64 (t + Prod.fst (rt (sq a b c d ac en cr ex i))) - (1 : Int))) (Prod.fst (rt (sq a b c d ac en cr ex i))))))))) (.bad 116) : Tr AV).val = some (.one (.v false (.int .i64 (ivl (sq a b c d ac en cr ex i) t)))) := by
  have hz := sq_nonneg a b c d ac en cr ex i
  obtain ⟨z, e⟩ : ∃ z, sq a b c d ac en cr ex i = z := ⟨_, rfl⟩
  rw [e] at hz ⊢
  have hz := And.intro hz.1 hz.2.1
  cases hq : (decide (1 ≤ z) && (decide (1 ≤ t) && decide (t ≤ 1048576)))
  · rw [ivl_out hq]
    have t0 : (bif z == (0 : Int) then true else !bif decide (t ≥ (1 : Int)) then decide (t ≤ (1048576 : Int)) else false) = true := by
      simp at hq ⊢; omega
    show cond _ _ _ = _
    simp only [t0, cond_true, Tr.val]
  · obtain ⟨o1, o2, o3⟩ := ivl_raw hz hq
    have t0 : (bif z == (0 : Int) then true else !bif decide (t ≥ (1 : Int)) then decide (t ≤ (1048576 : Int)) else false) = false := by
      simp at hq ⊢; omega
    show cond _ _ _ = _
    simp only [t0, cond_false, o1, o2, o3, Bool.and_self, cond_true, Tr.val]
noncomputable def ita_g : List AV → Option (Tr AV)
  | [.ag [.v _ (.int .i64 a), .v _ (.int .i64 b), .v _ (.int .i64 c), .v _ (.int .i64 d), .v _ (.int .i64 ac), .v _ (.int .i64 en), .v _ (.int .i64 cr), .v _ (.int .i64 ex)], .one (.v _ (.int .i64 i)), .one (.v _ (.int .i64 t))] => some (.ret (.one (.v false (.int .i64 (ivl (sq a b c d ac en cr ex i) t)))))
  | _ => none
set_option maxHeartbeats 4000000 in
theorem ita_ok : FunOK Try.prog 24 ita_g := by
  refine fun_ok (by kernel_rfl) (puA_S60_ok) (L0_ok _) 9 (On := (opens [45])) (fun args t h => ?_)
  unfold ita_g at h
  split at h
  · rename_i _ a _ b _ c _ d _ ac _ en _ cr _ ex _ i _ t
    simp only [Option.some.injEq] at h
    subst h
    refine ⟨[.ag [.v false (.int .i64 a), .v false (.int .i64 b), .v false (.int .i64 c), .v false (.int .i64 d), .v false (.int .i64 ac), .v false (.int .i64 en), .v false (.int .i64 cr), .v false (.int .i64 ex)], .one (.v false (.int .i64 i)), .one (.v false (.int .i64 t))], rfl, fun fr w us h => h, fun r hr => ?_⟩
    simp only [Tr.val, Option.some.injEq] at hr
    subst hr
    rw [ita_tree]
    exact ita_val a b c d ac en cr ex i t
  · cases h
noncomputable def puA_S61 : Sums := addS 24 ita_g puA_S60
theorem puA_S61_ok : SumOK Try.prog puA_S61 := addS_ok (ita_ok) (puA_S60_ok)
set_option maxRecDepth 100000 in
theorem itb_tree (a : Int) (b : Int) (c : Int) (d : Int) (ac : Int) (en : Int) (cr : Int) (ex : Int) (i : Int) (t : Int) : evalF Try.prog puA_S61 (opens [45]) L0 9 22 [.ag [.v false (.int .i64 a), .v false (.int .i64 b), .v false (.int .i64 c), .v false (.int .i64 d), .v false (.int .i64 ac), .v false (.int .i64 en), .v false (.int .i64 cr), .v false (.int .i64 ex)], .one (.v false (.int .i64 i)), .one (.v false (.int .i64 t))] = .br ((bif bif bif decide (sq a b c d ac en cr ex i < (1 : Int)) then true else decide (t < (1 : Int)) then true else decide (t > (1048576 : Int)) then true else ((decide ((-9223372036854775808 : Int) ≤ sq a b c d ac en cr ex i) && decide (sq a b c d ac en cr ex i ≤ (9223372036854775807 : Int))) && (Prod.fst (rt (sq a b c d ac en cr ex i)) != (0 : Int))))) (.ret (.one (.v false (.int .i64 (bif bif bif decide (sq a b c d ac en cr ex i < (1 : Int)) then true else decide (t < (1 : Int)) then true else decide (t > (1048576 : Int)) then (0 : Int) else IntKind.wrap IntKind.i64 (Int.tdiv (IntKind.wrap IntKind.i64 (IntKind.wrap IntKind.i64 (t + Prod.fst (rt (sq a b c d ac en cr ex i))) - (1 : Int))) (Prod.fst (rt (sq a b c d ac en cr ex i))))))))) (.bad 116) := by kernel_rfl
set_option maxHeartbeats 4000000 in
theorem itb_val (a : Int) (b : Int) (c : Int) (d : Int) (ac : Int) (en : Int) (cr : Int) (ex : Int) (i : Int) (t : Int) : (.br ((bif bif bif decide (sq a b c d ac en cr ex i < (1 : Int)) then true else decide (t < (1 : Int)) then true else decide (t > (1048576 : Int)) then true else ((decide ((-9223372036854775808 : Int) ≤ sq a b c d ac en cr ex i) && decide (sq a b c d ac en cr ex i ≤ (9223372036854775807 : Int))) && (Prod.fst (rt (sq a b c d ac en cr ex i)) != (0 : Int))))) (.ret (.one (.v false (.int .i64 (bif bif bif decide (sq a b c d ac en cr ex i < (1 : Int)) then true else decide (t < (1 : Int)) then true else decide (t > (1048576 : Int)) then (0 : Int) else IntKind.wrap IntKind.i64 (Int.tdiv (IntKind.wrap IntKind.i64 (IntKind.wrap IntKind.i64 (t + Prod.fst (rt (sq a b c d ac en cr ex i))) - (1 : Int))) (Prod.fst (rt (sq a b c d ac en cr ex i))))))))) (.bad 116) : Tr AV).val = some (.one (.v false (.int .i64 (ivl (sq a b c d ac en cr ex i) t)))) := by
  have hz := sq_nonneg a b c d ac en cr ex i
  obtain ⟨z, e⟩ : ∃ z, sq a b c d ac en cr ex i = z := ⟨_, rfl⟩
  rw [e] at hz ⊢
  have hz := And.intro hz.1 hz.2.1
  cases hq : (decide (1 ≤ z) && (decide (1 ≤ t) && decide (t ≤ 1048576)))
  · rw [ivl_out hq]
    have t0 : (bif bif decide (z < (1 : Int)) then true else decide (t < (1 : Int)) then true else decide (t > (1048576 : Int))) = true := by
      simp at hq ⊢; omega
    show cond _ _ _ = _
    simp only [t0, cond_true, Tr.val]
  · obtain ⟨o1, o2, o3⟩ := ivl_raw hz hq
    have t0 : (bif bif decide (z < (1 : Int)) then true else decide (t < (1 : Int)) then true else decide (t > (1048576 : Int))) = false := by
      simp at hq ⊢; omega
    show cond _ _ _ = _
    simp only [t0, cond_false, o1, o2, o3, Bool.and_self, cond_true, Tr.val]
noncomputable def itb_g : List AV → Option (Tr AV)
  | [.ag [.v _ (.int .i64 a), .v _ (.int .i64 b), .v _ (.int .i64 c), .v _ (.int .i64 d), .v _ (.int .i64 ac), .v _ (.int .i64 en), .v _ (.int .i64 cr), .v _ (.int .i64 ex)], .one (.v _ (.int .i64 i)), .one (.v _ (.int .i64 t))] => some (.ret (.one (.v false (.int .i64 (ivl (sq a b c d ac en cr ex i) t)))))
  | _ => none
set_option maxHeartbeats 4000000 in
theorem itb_ok : FunOK Try.prog 22 itb_g := by
  refine fun_ok (by kernel_rfl) (puA_S61_ok) (L0_ok _) 9 (On := (opens [45])) (fun args t h => ?_)
  unfold itb_g at h
  split at h
  · rename_i _ a _ b _ c _ d _ ac _ en _ cr _ ex _ i _ t
    simp only [Option.some.injEq] at h
    subst h
    refine ⟨[.ag [.v false (.int .i64 a), .v false (.int .i64 b), .v false (.int .i64 c), .v false (.int .i64 d), .v false (.int .i64 ac), .v false (.int .i64 en), .v false (.int .i64 cr), .v false (.int .i64 ex)], .one (.v false (.int .i64 i)), .one (.v false (.int .i64 t))], rfl, fun fr w us h => h, fun r hr => ?_⟩
    simp only [Tr.val, Option.some.injEq] at hr
    subst hr
    rw [itb_tree]
    exact itb_val a b c d ac en cr ex i t
  · cases h
noncomputable def puA_S62 : Sums := addS 22 itb_g puA_S61
theorem puA_S62_ok : SumOK Try.prog puA_S62 := addS_ok (itb_ok) (puA_S61_ok)
end Go.Proofs.Ythhfhiggacdneaa
