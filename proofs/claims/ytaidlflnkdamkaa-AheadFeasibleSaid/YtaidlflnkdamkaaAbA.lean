/-
  Layer 44: loops, by themselves.
-/
import Derived.Test.YtaidlflnkdamkaaProg
import Derived.Test.YtaidlflnkdamkaaFvX
import Derived.Test.YtaidlflnkdamkaaFvZ
import Derived.Test.YtaidlflnkdamkaaAut
namespace Go.Proofs.Ytaidlflnkdamkaa
open Go
set_option maxRecDepth 100000 in
theorem aw15_tree : evalF Try.prog S0 (opens []) L0 9 15 [] = .ret (.one (.v true (.bool true))) := by kernel_rfl
def abA_S2 : Sums := addS 15 gTrue S0
theorem abA_S2_ok : SumOK Try.prog abA_S2 := addS_ok (gTrue_ok (by kernel_rfl) (S0_ok _) (L0_ok _) aw15_tree) (S0_ok _)
def mx (x y : Int) : Int := if y > x then y else x
def dval (a b c d : Int) : Bool := decide (-16777216 ≤ a) && (decide (a ≤ 16777216) && (decide (-16777216 ≤ b) && (decide (b ≤ 16777216) && (decide (-16777216 ≤ c) && (decide (c ≤ 16777216) && (decide (-16777216 ≤ d) && (decide (d ≤ 16777216) && !(a == 0 && (b == 0 && (c == 0 && d == 0))))))))))
def dom (c0 c1 c2 c3 : Int) : Int := if dval c0 c1 c2 c3 = true then mx (mx (mx (mx (mx (mx (mx (mx 0 c0) (0 - c0)) c1) (0 - c1)) c2) (0 - c2)) c3) (0 - c3) else 0
def bval (a b c d ac en cr ex : Int) : Bool := dval a b c d && (decide (1 ≤ ac) && (decide (ac ≤ 16777216) && (decide (1 ≤ cr) && (decide (cr ≤ 1099511627776) && (decide (0 ≤ en) && (decide (en ≤ cr) && (decide (0 ≤ ex) && decide (ex ≤ cr))))))))
theorem mx_assoc (a b c : Int) : mx a (mx b c) = mx (mx a b) c := by
  unfold mx; repeat' split
  all_goals omega
theorem mx_le {a b k : Int} (h : a ≤ k) (g : b ≤ k) : mx a b ≤ k := by unfold mx; split <;> omega
theorem le_mx (a b : Int) : a ≤ mx a b ∧ b ≤ mx a b := by unfold mx; split <;> omega
theorem mx_or (a b : Int) : mx a b = a ∨ mx a b = b := by unfold mx; split <;> simp
theorem dv_iff {a b c d : Int} : dval a b c d = true ↔ (-16777216 ≤ a ∧ a ≤ 16777216) ∧ (-16777216 ≤ b ∧ b ≤ 16777216) ∧ (-16777216 ≤ c ∧ c ≤ 16777216) ∧ (-16777216 ≤ d ∧ d ≤ 16777216) ∧ ¬ (a = 0 ∧ b = 0 ∧ c = 0 ∧ d = 0) := by
  unfold dval
  constructor <;> intro h <;> simp at h ⊢ <;> omega
theorem dom_spec {a b c d : Int} (h : dval a b c d = true) : (a ≤ dom a b c d ∧ -a ≤ dom a b c d ∧ b ≤ dom a b c d ∧ -b ≤ dom a b c d ∧ c ≤ dom a b c d ∧ -c ≤ dom a b c d ∧ d ≤ dom a b c d ∧ -d ≤ dom a b c d) ∧ (dom a b c d = a ∨ dom a b c d = -a ∨ dom a b c d = b ∨ dom a b c d = -b ∨ dom a b c d = c ∨ dom a b c d = -c ∨ dom a b c d = d ∨ dom a b c d = -d) := by
  have hv := dv_iff.1 h
  unfold dom
  rw [if_pos h]
  have a1 := le_mx 0 a
  have o1 := mx_or 0 a
  generalize mx 0 a = x1 at *
  have a2 := le_mx x1 (0 - a)
  have o2 := mx_or x1 (0 - a)
  generalize mx x1 (0 - a) = x2 at *
  have a3 := le_mx x2 b
  have o3 := mx_or x2 b
  generalize mx x2 b = x3 at *
  have a4 := le_mx x3 (0 - b)
  have o4 := mx_or x3 (0 - b)
  generalize mx x3 (0 - b) = x4 at *
  have a5 := le_mx x4 c
  have o5 := mx_or x4 c
  generalize mx x4 c = x5 at *
  have a6 := le_mx x5 (0 - c)
  have o6 := mx_or x5 (0 - c)
  generalize mx x5 (0 - c) = x6 at *
  have a7 := le_mx x6 d
  have o7 := mx_or x6 d
  generalize mx x6 d = x7 at *
  have a8 := le_mx x7 (0 - d)
  have o8 := mx_or x7 (0 - d)
  generalize mx x7 (0 - d) = x8 at *
  refine ⟨by omega, ?_⟩
  have e1 : x2 = a ∨ x2 = -a := by omega
  have e2 : x4 = a ∨ x4 = -a ∨ x4 = b ∨ x4 = -b := by omega
  have e3 : x6 = a ∨ x6 = -a ∨ x6 = b ∨ x6 = -b ∨ x6 = c ∨ x6 = -c := by omega
  omega
theorem dom_in (a b c d : Int) : 0 ≤ dom a b c d ∧ dom a b c d ≤ 16777216 ∧ (dval a b c d = true → 1 ≤ dom a b c d) := by
  cases h : dval a b c d
  · have : dom a b c d = 0 := by unfold dom; rw [if_neg (by simp [h])]
    rw [this]; simp
  · have := dom_spec h
    have hv := dv_iff.1 h
    refine ⟨by omega, by omega, fun _ => by omega⟩
theorem neg_w {c : Int} (h : -16777216 ≤ c ∧ c ≤ 16777216) : IntKind.wrap IntKind.i64 ((0 : Int) - c) = 0 - c := IntWalk.i64_in _ (by omega)
theorem bv_iff {a b c d ac en cr ex : Int} : bval a b c d ac en cr ex = true ↔ dval a b c d = true ∧ 1 ≤ ac ∧ ac ≤ 16777216 ∧ 1 ≤ cr ∧ cr ≤ 1099511627776 ∧ 0 ≤ en ∧ en ≤ cr ∧ 0 ≤ ex ∧ ex ≤ cr := by
  unfold bval
  simp only [Bool.and_eq_true, decide_eq_true_eq]
set_option maxRecDepth 100000 in
theorem dv_tree (a : Int) (b : Int) (c : Int) (d : Int) : evalF Try.prog abA_S2 (opens []) L0 9 64 [.ag [.v false (.int .i64 a), .v false (.int .i64 b), .v false (.int .i64 c), .v false (.int .i64 d)]] = .ret (.one (.v false (.bool (bif bif decide (a < (-16777216 : Int)) then true else decide (a > (16777216 : Int)) then false else bif bif decide (b < (-16777216 : Int)) then true else decide (b > (16777216 : Int)) then false else bif bif decide (c < (-16777216 : Int)) then true else decide (c > (16777216 : Int)) then false else bif bif decide (d < (-16777216 : Int)) then true else decide (d > (16777216 : Int)) then false else match false with | true => a == (0 : Int) && (b == (0 : Int) && (c == (0 : Int) && (d == (0 : Int) && true))) | false => !(a == (0 : Int) && (b == (0 : Int) && (c == (0 : Int) && (d == (0 : Int) && true)))))))) := by kernel_rfl
set_option maxHeartbeats 4000000 in
theorem dv_val (a : Int) (b : Int) (c : Int) (d : Int) : (.ret (.one (.v false (.bool (bif bif decide (a < (-16777216 : Int)) then true else decide (a > (16777216 : Int)) then false else bif bif decide (b < (-16777216 : Int)) then true else decide (b > (16777216 : Int)) then false else bif bif decide (c < (-16777216 : Int)) then true else decide (c > (16777216 : Int)) then false else bif bif decide (d < (-16777216 : Int)) then true else decide (d > (16777216 : Int)) then false else match false with | true => a == (0 : Int) && (b == (0 : Int) && (c == (0 : Int) && (d == (0 : Int) && true))) | false => !(a == (0 : Int) && (b == (0 : Int) && (c == (0 : Int) && (d == (0 : Int) && true)))))))) : Tr AV).val = some (.one (.v false (.bool (dval a b c d)))) := by
  refine congrArg (fun b => some (AV.one (.v false (.bool b)))) ?_
  rw [Bool.eq_iff_iff]
  simp only [Bool.cond_eq_ite]
  unfold dval
  constructor <;> intro h <;> simp at h ⊢ <;> omega
def dv_g : List AV → Option (Tr AV)
  | [.ag [.v _ (.int .i64 a), .v _ (.int .i64 b), .v _ (.int .i64 c), .v _ (.int .i64 d)]] => some (.ret (.one (.v false (.bool (dval a b c d)))))
  | _ => none
set_option maxHeartbeats 4000000 in
theorem dv_ok : FunOK Try.prog 64 dv_g := by
  refine fun_ok (by kernel_rfl) (abA_S2_ok) (L0_ok _) 9 (On := (opens [])) (fun args t h => ?_)
  unfold dv_g at h
  split at h
  · rename_i _ a _ b _ c _ d
    simp only [Option.some.injEq] at h
    subst h
    refine ⟨[.ag [.v false (.int .i64 a), .v false (.int .i64 b), .v false (.int .i64 c), .v false (.int .i64 d)]], rfl, fun fr w us h => h, fun r hr => ?_⟩
    simp only [Tr.val, Option.some.injEq] at hr
    subst hr
    rw [dv_tree]
    exact dv_val a b c d
  · cases h
def abA_S3 : Sums := addS 64 dv_g abA_S2
theorem abA_S3_ok : SumOK Try.prog abA_S3 := addS_ok (dv_ok) (abA_S2_ok)
set_option maxRecDepth 100000 in
theorem rdv_tree (a : Int) (b : Int) (c : Int) (d : Int) : evalF Try.prog abA_S3 (opens []) L0 9 60 [.ag [.v false (.int .i64 a), .v false (.int .i64 b), .v false (.int .i64 c), .v false (.int .i64 d)]] = .ret (.one (.v false (.bool (bif bif decide (a < (-16777216 : Int)) then true else decide (a > (16777216 : Int)) then false else bif bif decide (b < (-16777216 : Int)) then true else decide (b > (16777216 : Int)) then false else bif bif decide (c < (-16777216 : Int)) then true else decide (c > (16777216 : Int)) then false else bif bif decide (d < (-16777216 : Int)) then true else decide (d > (16777216 : Int)) then false else bif bif bif a != (0 : Int) then true else b != (0 : Int) then true else c != (0 : Int) then true else d != (0 : Int))))) := by kernel_rfl
set_option maxHeartbeats 4000000 in
theorem rdv_val (a : Int) (b : Int) (c : Int) (d : Int) : (.ret (.one (.v false (.bool (bif bif decide (a < (-16777216 : Int)) then true else decide (a > (16777216 : Int)) then false else bif bif decide (b < (-16777216 : Int)) then true else decide (b > (16777216 : Int)) then false else bif bif decide (c < (-16777216 : Int)) then true else decide (c > (16777216 : Int)) then false else bif bif decide (d < (-16777216 : Int)) then true else decide (d > (16777216 : Int)) then false else bif bif bif a != (0 : Int) then true else b != (0 : Int) then true else c != (0 : Int) then true else d != (0 : Int))))) : Tr AV).val = some (.one (.v false (.bool (dval a b c d)))) := by
  refine congrArg (fun b => some (AV.one (.v false (.bool b)))) ?_
  rw [Bool.eq_iff_iff]
  simp only [Bool.cond_eq_ite]
  unfold dval
  constructor <;> intro h <;> simp at h ⊢ <;> omega
def rdv_g : List AV → Option (Tr AV)
  | [.ag [.v _ (.int .i64 a), .v _ (.int .i64 b), .v _ (.int .i64 c), .v _ (.int .i64 d)]] => some (.ret (.one (.v false (.bool (dval a b c d)))))
  | _ => none
set_option maxHeartbeats 4000000 in
theorem rdv_ok : FunOK Try.prog 60 rdv_g := by
  refine fun_ok (by kernel_rfl) (abA_S3_ok) (L0_ok _) 9 (On := (opens [])) (fun args t h => ?_)
  unfold rdv_g at h
  split at h
  · rename_i _ a _ b _ c _ d
    simp only [Option.some.injEq] at h
    subst h
    refine ⟨[.ag [.v false (.int .i64 a), .v false (.int .i64 b), .v false (.int .i64 c), .v false (.int .i64 d)]], rfl, fun fr w us h => h, fun r hr => ?_⟩
    simp only [Tr.val, Option.some.injEq] at hr
    subst hr
    rw [rdv_tree]
    exact rdv_val a b c d
  · cases h
def abA_S4 : Sums := addS 60 rdv_g abA_S3
theorem abA_S4_ok : SumOK Try.prog abA_S4 := addS_ok (rdv_ok) (abA_S3_ok)
set_option maxRecDepth 100000 in
theorem dm_tree (a : Int) (b : Int) (c : Int) (d : Int) : evalF Try.prog abA_S4 (opens []) L0 9 52 [.ag [.v false (.int .i64 a), .v false (.int .i64 b), .v false (.int .i64 c), .v false (.int .i64 d)]] = .ret (.one (.v false (.int .i64 (bif !dval a b c d then (0 : Int) else if IntKind.wrap IntKind.i64 ((0 : Int) - d) > if d > if IntKind.wrap IntKind.i64 ((0 : Int) - c) > if c > if IntKind.wrap IntKind.i64 ((0 : Int) - b) > if b > if IntKind.wrap IntKind.i64 ((0 : Int) - a) > if a > (0 : Int) then a else (0 : Int) then IntKind.wrap IntKind.i64 ((0 : Int) - a) else if a > (0 : Int) then a else (0 : Int) then b else if IntKind.wrap IntKind.i64 ((0 : Int) - a) > if a > (0 : Int) then a else (0 : Int) then IntKind.wrap IntKind.i64 ((0 : Int) - a) else if a > (0 : Int) then a else (0 : Int) then IntKind.wrap IntKind.i64 ((0 : Int) - b) else if b > if IntKind.wrap IntKind.i64 ((0 : Int) - a) > if a > (0 : Int) then a else (0 : Int) then IntKind.wrap IntKind.i64 ((0 : Int) - a) else if a > (0 : Int) then a else (0 : Int) then b else if IntKind.wrap IntKind.i64 ((0 : Int) - a) > if a > (0 : Int) then a else (0 : Int) then IntKind.wrap IntKind.i64 ((0 : Int) - a) else if a > (0 : Int) then a else (0 : Int) then c else if IntKind.wrap IntKind.i64 ((0 : Int) - b) > if b > if IntKind.wrap IntKind.i64 ((0 : Int) - a) > if a > (0 : Int) then a else (0 : Int) then IntKind.wrap IntKind.i64 ((0 : Int) - a) else if a > (0 : Int) then a else (0 : Int) then b else if IntKind.wrap IntKind.i64 ((0 : Int) - a) > if a > (0 : Int) then a else (0 : Int) then IntKind.wrap IntKind.i64 ((0 : Int) - a) else if a > (0 : Int) then a else (0 : Int) then IntKind.wrap IntKind.i64 ((0 : Int) - b) else if b > if IntKind.wrap IntKind.i64 ((0 : Int) - a) > if a > (0 : Int) then a else (0 : Int) then IntKind.wrap IntKind.i64 ((0 : Int) - a) else if a > (0 : Int) then a else (0 : Int) then b else if IntKind.wrap IntKind.i64 ((0 : Int) - a) > if a > (0 : Int) then a else (0 : Int) then IntKind.wrap IntKind.i64 ((0 : Int) - a) else if a > (0 : Int) then a else (0 : Int) then IntKind.wrap IntKind.i64 ((0 : Int) - c) else if c > if IntKind.wrap IntKind.i64 ((0 : Int) - b) > if b > if IntKind.wrap IntKind.i64 ((0 : Int) - a) > if a > (0 : Int) then a else (0 : Int) then IntKind.wrap IntKind.i64 ((0 : Int) - a) else if a > (0 : Int) then a else (0 : Int) then b else if IntKind.wrap IntKind.i64 ((0 : Int) - a) > if a > (0 : Int) then a else (0 : Int) then IntKind.wrap IntKind.i64 ((0 : Int) - a) else if a > (0 : Int) then a else (0 : Int) then IntKind.wrap IntKind.i64 ((0 : Int) - b) else if b > if IntKind.wrap IntKind.i64 ((0 : Int) - a) > if a > (0 : Int) then a else (0 : Int) then IntKind.wrap IntKind.i64 ((0 : Int) - a) else if a > (0 : Int) then a else (0 : Int) then b else if IntKind.wrap IntKind.i64 ((0 : Int) - a) > if a > (0 : Int) then a else (0 : Int) then IntKind.wrap IntKind.i64 ((0 : Int) - a) else if a > (0 : Int) then a else (0 : Int) then c else if IntKind.wrap IntKind.i64 ((0 : Int) - b) > if b > if IntKind.wrap IntKind.i64 ((0 : Int) - a) > if a > (0 : Int) then a else (0 : Int) then IntKind.wrap IntKind.i64 ((0 : Int) - a) else if a > (0 : Int) then a else (0 : Int) then b else if IntKind.wrap IntKind.i64 ((0 : Int) - a) > if a > (0 : Int) then a else (0 : Int) then IntKind.wrap IntKind.i64 ((0 : Int) - a) else if a > (0 : Int) then a else (0 : Int) then IntKind.wrap IntKind.i64 ((0 : Int) - b) else if b > if IntKind.wrap IntKind.i64 ((0 : Int) - a) > if a > (0 : Int) then a else (0 : Int) then IntKind.wrap IntKind.i64 ((0 : Int) - a) else if a > (0 : Int) then a else (0 : Int) then b else if IntKind.wrap IntKind.i64 ((0 : Int) - a) > if a > (0 : Int) then a else (0 : Int) then IntKind.wrap IntKind.i64 ((0 : Int) - a) else if a > (0 : Int) then a else (0 : Int) then d else if IntKind.wrap IntKind.i64 ((0 : Int) - c) > if c > if IntKind.wrap IntKind.i64 ((0 : Int) - b) > if b > if IntKind.wrap IntKind.i64 ((0 : Int) - a) > if a > (0 : Int) then a else (0 : Int) then IntKind.wrap IntKind.i64 ((0 : Int) - a) else if a > (0 : Int) then a else (0 : Int) then b else if IntKind.wrap IntKind.i64 ((0 : Int) - a) > if a > (0 : Int) then a else (0 : Int) then IntKind.wrap IntKind.i64 ((0 : Int) - a) else if a > (0 : Int) then a else (0 : Int) then IntKind.wrap IntKind.i64 ((0 : Int) - b) else if b > if IntKind.wrap IntKind.i64 ((0 : Int) - a) > if a > (0 : Int) then a else (0 : Int) then IntKind.wrap IntKind.i64 ((0 : Int) - a) else if a > (0 : Int) then a else (0 : Int) then b else if IntKind.wrap IntKind.i64 ((0 : Int) - a) > if a > (0 : Int) then a else (0 : Int) then IntKind.wrap IntKind.i64 ((0 : Int) - a) else if a > (0 : Int) then a else (0 : Int) then c else if IntKind.wrap IntKind.i64 ((0 : Int) - b) > if b > if IntKind.wrap IntKind.i64 ((0 : Int) - a) > if a > (0 : Int) then a else (0 : Int) then IntKind.wrap IntKind.i64 ((0 : Int) - a) else if a > (0 : Int) then a else (0 : Int) then b else if IntKind.wrap IntKind.i64 ((0 : Int) - a) > if a > (0 : Int) then a else (0 : Int) then IntKind.wrap IntKind.i64 ((0 : Int) - a) else if a > (0 : Int) then a else (0 : Int) then IntKind.wrap IntKind.i64 ((0 : Int) - b) else if b > if IntKind.wrap IntKind.i64 ((0 : Int) - a) > if a > (0 : Int) then a else (0 : Int) then IntKind.wrap IntKind.i64 ((0 : Int) - a) else if a > (0 : Int) then a else (0 : Int) then b else if IntKind.wrap IntKind.i64 ((0 : Int) - a) > if a > (0 : Int) then a else (0 : Int) then IntKind.wrap IntKind.i64 ((0 : Int) - a) else if a > (0 : Int) then a else (0 : Int) then IntKind.wrap IntKind.i64 ((0 : Int) - c) else if c > if IntKind.wrap IntKind.i64 ((0 : Int) - b) > if b > if IntKind.wrap IntKind.i64 ((0 : Int) - a) > if a > (0 : Int) then a else (0 : Int) then IntKind.wrap IntKind.i64 ((0 : Int) - a) else if a > (0 : Int) then a else (0 : Int) then b else if IntKind.wrap IntKind.i64 ((0 : Int) - a) > if a > (0 : Int) then a else (0 : Int) then IntKind.wrap IntKind.i64 ((0 : Int) - a) else if a > (0 : Int) then a else (0 : Int) then IntKind.wrap IntKind.i64 ((0 : Int) - b) else if b > if IntKind.wrap IntKind.i64 ((0 : Int) - a) > if a > (0 : Int) then a else (0 : Int) then IntKind.wrap IntKind.i64 ((0 : Int) - a) else if a > (0 : Int) then a else (0 : Int) then b else if IntKind.wrap IntKind.i64 ((0 : Int) - a) > if a > (0 : Int) then a else (0 : Int) then IntKind.wrap IntKind.i64 ((0 : Int) - a) else if a > (0 : Int) then a else (0 : Int) then c else if IntKind.wrap IntKind.i64 ((0 : Int) - b) > if b > if IntKind.wrap IntKind.i64 ((0 : Int) - a) > if a > (0 : Int) then a else (0 : Int) then IntKind.wrap IntKind.i64 ((0 : Int) - a) else if a > (0 : Int) then a else (0 : Int) then b else if IntKind.wrap IntKind.i64 ((0 : Int) - a) > if a > (0 : Int) then a else (0 : Int) then IntKind.wrap IntKind.i64 ((0 : Int) - a) else if a > (0 : Int) then a else (0 : Int) then IntKind.wrap IntKind.i64 ((0 : Int) - b) else if b > if IntKind.wrap IntKind.i64 ((0 : Int) - a) > if a > (0 : Int) then a else (0 : Int) then IntKind.wrap IntKind.i64 ((0 : Int) - a) else if a > (0 : Int) then a else (0 : Int) then b else if IntKind.wrap IntKind.i64 ((0 : Int) - a) > if a > (0 : Int) then a else (0 : Int) then IntKind.wrap IntKind.i64 ((0 : Int) - a) else if a > (0 : Int) then a else (0 : Int) then IntKind.wrap IntKind.i64 ((0 : Int) - d) else if d > if IntKind.wrap IntKind.i64 ((0 : Int) - c) > if c > if IntKind.wrap IntKind.i64 ((0 : Int) - b) > if b > if IntKind.wrap IntKind.i64 ((0 : Int) - a) > if a > (0 : Int) then a else (0 : Int) then IntKind.wrap IntKind.i64 ((0 : Int) - a) else if a > (0 : Int) then a else (0 : Int) then b else if IntKind.wrap IntKind.i64 ((0 : Int) - a) > if a > (0 : Int) then a else (0 : Int) then IntKind.wrap IntKind.i64 ((0 : Int) - a) else if a > (0 : Int) then a else (0 : Int) then IntKind.wrap IntKind.i64 ((0 : Int) - b) else if b > if IntKind.wrap IntKind.i64 ((0 : Int) - a) > if a > (0 : Int) then a else (0 : Int) then IntKind.wrap IntKind.i64 ((0 : Int) - a) else if a > (0 : Int) then a else (0 : Int) then b else if IntKind.wrap IntKind.i64 ((0 : Int) - a) > if a > (0 : Int) then a else (0 : Int) then IntKind.wrap IntKind.i64 ((0 : Int) - a) else if a > (0 : Int) then a else (0 : Int) then c else if IntKind.wrap IntKind.i64 ((0 : Int) - b) > if b > if IntKind.wrap IntKind.i64 ((0 : Int) - a) > if a > (0 : Int) then a else (0 : Int) then IntKind.wrap IntKind.i64 ((0 : Int) - a) else if a > (0 : Int) then a else (0 : Int) then b else if IntKind.wrap IntKind.i64 ((0 : Int) - a) > if a > (0 : Int) then a else (0 : Int) then IntKind.wrap IntKind.i64 ((0 : Int) - a) else if a > (0 : Int) then a else (0 : Int) then IntKind.wrap IntKind.i64 ((0 : Int) - b) else if b > if IntKind.wrap IntKind.i64 ((0 : Int) - a) > if a > (0 : Int) then a else (0 : Int) then IntKind.wrap IntKind.i64 ((0 : Int) - a) else if a > (0 : Int) then a else (0 : Int) then b else if IntKind.wrap IntKind.i64 ((0 : Int) - a) > if a > (0 : Int) then a else (0 : Int) then IntKind.wrap IntKind.i64 ((0 : Int) - a) else if a > (0 : Int) then a else (0 : Int) then IntKind.wrap IntKind.i64 ((0 : Int) - c) else if c > if IntKind.wrap IntKind.i64 ((0 : Int) - b) > if b > if IntKind.wrap IntKind.i64 ((0 : Int) - a) > if a > (0 : Int) then a else (0 : Int) then IntKind.wrap IntKind.i64 ((0 : Int) - a) else if a > (0 : Int) then a else (0 : Int) then b else if IntKind.wrap IntKind.i64 ((0 : Int) - a) > if a > (0 : Int) then a else (0 : Int) then IntKind.wrap IntKind.i64 ((0 : Int) - a) else if a > (0 : Int) then a else (0 : Int) then IntKind.wrap IntKind.i64 ((0 : Int) - b) else if b > if IntKind.wrap IntKind.i64 ((0 : Int) - a) > if a > (0 : Int) then a else (0 : Int) then IntKind.wrap IntKind.i64 ((0 : Int) - a) else if a > (0 : Int) then a else (0 : Int) then b else if IntKind.wrap IntKind.i64 ((0 : Int) - a) > if a > (0 : Int) then a else (0 : Int) then IntKind.wrap IntKind.i64 ((0 : Int) - a) else if a > (0 : Int) then a else (0 : Int) then c else if IntKind.wrap IntKind.i64 ((0 : Int) - b) > if b > if IntKind.wrap IntKind.i64 ((0 : Int) - a) > if a > (0 : Int) then a else (0 : Int) then IntKind.wrap IntKind.i64 ((0 : Int) - a) else if a > (0 : Int) then a else (0 : Int) then b else if IntKind.wrap IntKind.i64 ((0 : Int) - a) > if a > (0 : Int) then a else (0 : Int) then IntKind.wrap IntKind.i64 ((0 : Int) - a) else if a > (0 : Int) then a else (0 : Int) then IntKind.wrap IntKind.i64 ((0 : Int) - b) else if b > if IntKind.wrap IntKind.i64 ((0 : Int) - a) > if a > (0 : Int) then a else (0 : Int) then IntKind.wrap IntKind.i64 ((0 : Int) - a) else if a > (0 : Int) then a else (0 : Int) then b else if IntKind.wrap IntKind.i64 ((0 : Int) - a) > if a > (0 : Int) then a else (0 : Int) then IntKind.wrap IntKind.i64 ((0 : Int) - a) else if a > (0 : Int) then a else (0 : Int) then d else if IntKind.wrap IntKind.i64 ((0 : Int) - c) > if c > if IntKind.wrap IntKind.i64 ((0 : Int) - b) > if b > if IntKind.wrap IntKind.i64 ((0 : Int) - a) > if a > (0 : Int) then a else (0 : Int) then IntKind.wrap IntKind.i64 ((0 : Int) - a) else if a > (0 : Int) then a else (0 : Int) then b else if IntKind.wrap IntKind.i64 ((0 : Int) - a) > if a > (0 : Int) then a else (0 : Int) then IntKind.wrap IntKind.i64 ((0 : Int) - a) else if a > (0 : Int) then a else (0 : Int) then IntKind.wrap IntKind.i64 ((0 : Int) - b) else if b > if IntKind.wrap IntKind.i64 ((0 : Int) - a) > if a > (0 : Int) then a else (0 : Int) then IntKind.wrap IntKind.i64 ((0 : Int) - a) else if a > (0 : Int) then a else (0 : Int) then b else if IntKind.wrap IntKind.i64 ((0 : Int) - a) > if a > (0 : Int) then a else (0 : Int) then IntKind.wrap IntKind.i64 ((0 : Int) - a) else if a > (0 : Int) then a else (0 : Int) then c else if IntKind.wrap IntKind.i64 ((0 : Int) - b) > if b > if IntKind.wrap IntKind.i64 ((0 : Int) - a) > if a > (0 : Int) then a else (0 : Int) then IntKind.wrap IntKind.i64 ((0 : Int) - a) else if a > (0 : Int) then a else (0 : Int) then b else if IntKind.wrap IntKind.i64 ((0 : Int) - a) > if a > (0 : Int) then a else (0 : Int) then IntKind.wrap IntKind.i64 ((0 : Int) - a) else if a > (0 : Int) then a else (0 : Int) then IntKind.wrap IntKind.i64 ((0 : Int) - b) else if b > if IntKind.wrap IntKind.i64 ((0 : Int) - a) > if a > (0 : Int) then a else (0 : Int) then IntKind.wrap IntKind.i64 ((0 : Int) - a) else if a > (0 : Int) then a else (0 : Int) then b else if IntKind.wrap IntKind.i64 ((0 : Int) - a) > if a > (0 : Int) then a else (0 : Int) then IntKind.wrap IntKind.i64 ((0 : Int) - a) else if a > (0 : Int) then a else (0 : Int) then IntKind.wrap IntKind.i64 ((0 : Int) - c) else if c > if IntKind.wrap IntKind.i64 ((0 : Int) - b) > if b > if IntKind.wrap IntKind.i64 ((0 : Int) - a) > if a > (0 : Int) then a else (0 : Int) then IntKind.wrap IntKind.i64 ((0 : Int) - a) else if a > (0 : Int) then a else (0 : Int) then b else if IntKind.wrap IntKind.i64 ((0 : Int) - a) > if a > (0 : Int) then a else (0 : Int) then IntKind.wrap IntKind.i64 ((0 : Int) - a) else if a > (0 : Int) then a else (0 : Int) then IntKind.wrap IntKind.i64 ((0 : Int) - b) else if b > if IntKind.wrap IntKind.i64 ((0 : Int) - a) > if a > (0 : Int) then a else (0 : Int) then IntKind.wrap IntKind.i64 ((0 : Int) - a) else if a > (0 : Int) then a else (0 : Int) then b else if IntKind.wrap IntKind.i64 ((0 : Int) - a) > if a > (0 : Int) then a else (0 : Int) then IntKind.wrap IntKind.i64 ((0 : Int) - a) else if a > (0 : Int) then a else (0 : Int) then c else if IntKind.wrap IntKind.i64 ((0 : Int) - b) > if b > if IntKind.wrap IntKind.i64 ((0 : Int) - a) > if a > (0 : Int) then a else (0 : Int) then IntKind.wrap IntKind.i64 ((0 : Int) - a) else if a > (0 : Int) then a else (0 : Int) then b else if IntKind.wrap IntKind.i64 ((0 : Int) - a) > if a > (0 : Int) then a else (0 : Int) then IntKind.wrap IntKind.i64 ((0 : Int) - a) else if a > (0 : Int) then a else (0 : Int) then IntKind.wrap IntKind.i64 ((0 : Int) - b) else if b > if IntKind.wrap IntKind.i64 ((0 : Int) - a) > if a > (0 : Int) then a else (0 : Int) then IntKind.wrap IntKind.i64 ((0 : Int) - a) else if a > (0 : Int) then a else (0 : Int) then b else if IntKind.wrap IntKind.i64 ((0 : Int) - a) > if a > (0 : Int) then a else (0 : Int) then IntKind.wrap IntKind.i64 ((0 : Int) - a) else if a > (0 : Int) then a else (0 : Int))))) := by kernel_rfl
set_option maxHeartbeats 4000000 in
theorem dm_val (a : Int) (b : Int) (c : Int) (d : Int) : (.ret (.one (.v false (.int .i64 (bif !dval a b c d then (0 : Int) else if IntKind.wrap IntKind.i64 ((0 : Int) - d) > if d > if IntKind.wrap IntKind.i64 ((0 : Int) - c) > if c > if IntKind.wrap IntKind.i64 ((0 : Int) - b) > if b > if IntKind.wrap IntKind.i64 ((0 : Int) - a) > if a > (0 : Int) then a else (0 : Int) then IntKind.wrap IntKind.i64 ((0 : Int) - a) else if a > (0 : Int) then a else (0 : Int) then b else if IntKind.wrap IntKind.i64 ((0 : Int) - a) > if a > (0 : Int) then a else (0 : Int) then IntKind.wrap IntKind.i64 ((0 : Int) - a) else if a > (0 : Int) then a else (0 : Int) then IntKind.wrap IntKind.i64 ((0 : Int) - b) else if b > if IntKind.wrap IntKind.i64 ((0 : Int) - a) > if a > (0 : Int) then a else (0 : Int) then IntKind.wrap IntKind.i64 ((0 : Int) - a) else if a > (0 : Int) then a else (0 : Int) then b else if IntKind.wrap IntKind.i64 ((0 : Int) - a) > if a > (0 : Int) then a else (0 : Int) then IntKind.wrap IntKind.i64 ((0 : Int) - a) else if a > (0 : Int) then a else (0 : Int) then c else if IntKind.wrap IntKind.i64 ((0 : Int) - b) > if b > if IntKind.wrap IntKind.i64 ((0 : Int) - a) > if a > (0 : Int) then a else (0 : Int) then IntKind.wrap IntKind.i64 ((0 : Int) - a) else if a > (0 : Int) then a else (0 : Int) then b else if IntKind.wrap IntKind.i64 ((0 : Int) - a) > if a > (0 : Int) then a else (0 : Int) then IntKind.wrap IntKind.i64 ((0 : Int) - a) else if a > (0 : Int) then a else (0 : Int) then IntKind.wrap IntKind.i64 ((0 : Int) - b) else if b > if IntKind.wrap IntKind.i64 ((0 : Int) - a) > if a > (0 : Int) then a else (0 : Int) then IntKind.wrap IntKind.i64 ((0 : Int) - a) else if a > (0 : Int) then a else (0 : Int) then b else if IntKind.wrap IntKind.i64 ((0 : Int) - a) > if a > (0 : Int) then a else (0 : Int) then IntKind.wrap IntKind.i64 ((0 : Int) - a) else if a > (0 : Int) then a else (0 : Int) then IntKind.wrap IntKind.i64 ((0 : Int) - c) else if c > if IntKind.wrap IntKind.i64 ((0 : Int) - b) > if b > if IntKind.wrap IntKind.i64 ((0 : Int) - a) > if a > (0 : Int) then a else (0 : Int) then IntKind.wrap IntKind.i64 ((0 : Int) - a) else if a > (0 : Int) then a else (0 : Int) then b else if IntKind.wrap IntKind.i64 ((0 : Int) - a) > if a > (0 : Int) then a else (0 : Int) then IntKind.wrap IntKind.i64 ((0 : Int) - a) else if a > (0 : Int) then a else (0 : Int) then IntKind.wrap IntKind.i64 ((0 : Int) - b) else if b > if IntKind.wrap IntKind.i64 ((0 : Int) - a) > if a > (0 : Int) then a else (0 : Int) then IntKind.wrap IntKind.i64 ((0 : Int) - a) else if a > (0 : Int) then a else (0 : Int) then b else if IntKind.wrap IntKind.i64 ((0 : Int) - a) > if a > (0 : Int) then a else (0 : Int) then IntKind.wrap IntKind.i64 ((0 : Int) - a) else if a > (0 : Int) then a else (0 : Int) then c else if IntKind.wrap IntKind.i64 ((0 : Int) - b) > if b > if IntKind.wrap IntKind.i64 ((0 : Int) - a) > if a > (0 : Int) then a else (0 : Int) then IntKind.wrap IntKind.i64 ((0 : Int) - a) else if a > (0 : Int) then a else (0 : Int) then b else if IntKind.wrap IntKind.i64 ((0 : Int) - a) > if a > (0 : Int) then a else (0 : Int) then IntKind.wrap IntKind.i64 ((0 : Int) - a) else if a > (0 : Int) then a else (0 : Int) then IntKind.wrap IntKind.i64 ((0 : Int) - b) else if b > if IntKind.wrap IntKind.i64 ((0 : Int) - a) > if a > (0 : Int) then a else (0 : Int) then IntKind.wrap IntKind.i64 ((0 : Int) - a) else if a > (0 : Int) then a else (0 : Int) then b else if IntKind.wrap IntKind.i64 ((0 : Int) - a) > if a > (0 : Int) then a else (0 : Int) then IntKind.wrap IntKind.i64 ((0 : Int) - a) else if a > (0 : Int) then a else (0 : Int) then d else if IntKind.wrap IntKind.i64 ((0 : Int) - c) > if c > if IntKind.wrap IntKind.i64 ((0 : Int) - b) > if b > if IntKind.wrap IntKind.i64 ((0 : Int) - a) > if a > (0 : Int) then a else (0 : Int) then IntKind.wrap IntKind.i64 ((0 : Int) - a) else if a > (0 : Int) then a else (0 : Int) then b else if IntKind.wrap IntKind.i64 ((0 : Int) - a) > if a > (0 : Int) then a else (0 : Int) then IntKind.wrap IntKind.i64 ((0 : Int) - a) else if a > (0 : Int) then a else (0 : Int) then IntKind.wrap IntKind.i64 ((0 : Int) - b) else if b > if IntKind.wrap IntKind.i64 ((0 : Int) - a) > if a > (0 : Int) then a else (0 : Int) then IntKind.wrap IntKind.i64 ((0 : Int) - a) else if a > (0 : Int) then a else (0 : Int) then b else if IntKind.wrap IntKind.i64 ((0 : Int) - a) > if a > (0 : Int) then a else (0 : Int) then IntKind.wrap IntKind.i64 ((0 : Int) - a) else if a > (0 : Int) then a else (0 : Int) then c else if IntKind.wrap IntKind.i64 ((0 : Int) - b) > if b > if IntKind.wrap IntKind.i64 ((0 : Int) - a) > if a > (0 : Int) then a else (0 : Int) then IntKind.wrap IntKind.i64 ((0 : Int) - a) else if a > (0 : Int) then a else (0 : Int) then b else if IntKind.wrap IntKind.i64 ((0 : Int) - a) > if a > (0 : Int) then a else (0 : Int) then IntKind.wrap IntKind.i64 ((0 : Int) - a) else if a > (0 : Int) then a else (0 : Int) then IntKind.wrap IntKind.i64 ((0 : Int) - b) else if b > if IntKind.wrap IntKind.i64 ((0 : Int) - a) > if a > (0 : Int) then a else (0 : Int) then IntKind.wrap IntKind.i64 ((0 : Int) - a) else if a > (0 : Int) then a else (0 : Int) then b else if IntKind.wrap IntKind.i64 ((0 : Int) - a) > if a > (0 : Int) then a else (0 : Int) then IntKind.wrap IntKind.i64 ((0 : Int) - a) else if a > (0 : Int) then a else (0 : Int) then IntKind.wrap IntKind.i64 ((0 : Int) - c) else if c > if IntKind.wrap IntKind.i64 ((0 : Int) - b) > if b > if IntKind.wrap IntKind.i64 ((0 : Int) - a) > if a > (0 : Int) then a else (0 : Int) then IntKind.wrap IntKind.i64 ((0 : Int) - a) else if a > (0 : Int) then a else (0 : Int) then b else if IntKind.wrap IntKind.i64 ((0 : Int) - a) > if a > (0 : Int) then a else (0 : Int) then IntKind.wrap IntKind.i64 ((0 : Int) - a) else if a > (0 : Int) then a else (0 : Int) then IntKind.wrap IntKind.i64 ((0 : Int) - b) else if b > if IntKind.wrap IntKind.i64 ((0 : Int) - a) > if a > (0 : Int) then a else (0 : Int) then IntKind.wrap IntKind.i64 ((0 : Int) - a) else if a > (0 : Int) then a else (0 : Int) then b else if IntKind.wrap IntKind.i64 ((0 : Int) - a) > if a > (0 : Int) then a else (0 : Int) then IntKind.wrap IntKind.i64 ((0 : Int) - a) else if a > (0 : Int) then a else (0 : Int) then c else if IntKind.wrap IntKind.i64 ((0 : Int) - b) > if b > if IntKind.wrap IntKind.i64 ((0 : Int) - a) > if a > (0 : Int) then a else (0 : Int) then IntKind.wrap IntKind.i64 ((0 : Int) - a) else if a > (0 : Int) then a else (0 : Int) then b else if IntKind.wrap IntKind.i64 ((0 : Int) - a) > if a > (0 : Int) then a else (0 : Int) then IntKind.wrap IntKind.i64 ((0 : Int) - a) else if a > (0 : Int) then a else (0 : Int) then IntKind.wrap IntKind.i64 ((0 : Int) - b) else if b > if IntKind.wrap IntKind.i64 ((0 : Int) - a) > if a > (0 : Int) then a else (0 : Int) then IntKind.wrap IntKind.i64 ((0 : Int) - a) else if a > (0 : Int) then a else (0 : Int) then b else if IntKind.wrap IntKind.i64 ((0 : Int) - a) > if a > (0 : Int) then a else (0 : Int) then IntKind.wrap IntKind.i64 ((0 : Int) - a) else if a > (0 : Int) then a else (0 : Int) then IntKind.wrap IntKind.i64 ((0 : Int) - d) else if d > if IntKind.wrap IntKind.i64 ((0 : Int) - c) > if c > if IntKind.wrap IntKind.i64 ((0 : Int) - b) > if b > if IntKind.wrap IntKind.i64 ((0 : Int) - a) > if a > (0 : Int) then a else (0 : Int) then IntKind.wrap IntKind.i64 ((0 : Int) - a) else if a > (0 : Int) then a else (0 : Int) then b else if IntKind.wrap IntKind.i64 ((0 : Int) - a) > if a > (0 : Int) then a else (0 : Int) then IntKind.wrap IntKind.i64 ((0 : Int) - a) else if a > (0 : Int) then a else (0 : Int) then IntKind.wrap IntKind.i64 ((0 : Int) - b) else if b > if IntKind.wrap IntKind.i64 ((0 : Int) - a) > if a > (0 : Int) then a else (0 : Int) then IntKind.wrap IntKind.i64 ((0 : Int) - a) else if a > (0 : Int) then a else (0 : Int) then b else if IntKind.wrap IntKind.i64 ((0 : Int) - a) > if a > (0 : Int) then a else (0 : Int) then IntKind.wrap IntKind.i64 ((0 : Int) - a) else if a > (0 : Int) then a else (0 : Int) then c else if IntKind.wrap IntKind.i64 ((0 : Int) - b) > if b > if IntKind.wrap IntKind.i64 ((0 : Int) - a) > if a > (0 : Int) then a else (0 : Int) then IntKind.wrap IntKind.i64 ((0 : Int) - a) else if a > (0 : Int) then a else (0 : Int) then b else if IntKind.wrap IntKind.i64 ((0 : Int) - a) > if a > (0 : Int) then a else (0 : Int) then IntKind.wrap IntKind.i64 ((0 : Int) - a) else if a > (0 : Int) then a else (0 : Int) then IntKind.wrap IntKind.i64 ((0 : Int) - b) else if b > if IntKind.wrap IntKind.i64 ((0 : Int) - a) > if a > (0 : Int) then a else (0 : Int) then IntKind.wrap IntKind.i64 ((0 : Int) - a) else if a > (0 : Int) then a else (0 : Int) then b else if IntKind.wrap IntKind.i64 ((0 : Int) - a) > if a > (0 : Int) then a else (0 : Int) then IntKind.wrap IntKind.i64 ((0 : Int) - a) else if a > (0 : Int) then a else (0 : Int) then IntKind.wrap IntKind.i64 ((0 : Int) - c) else if c > if IntKind.wrap IntKind.i64 ((0 : Int) - b) > if b > if IntKind.wrap IntKind.i64 ((0 : Int) - a) > if a > (0 : Int) then a else (0 : Int) then IntKind.wrap IntKind.i64 ((0 : Int) - a) else if a > (0 : Int) then a else (0 : Int) then b else if IntKind.wrap IntKind.i64 ((0 : Int) - a) > if a > (0 : Int) then a else (0 : Int) then IntKind.wrap IntKind.i64 ((0 : Int) - a) else if a > (0 : Int) then a else (0 : Int) then IntKind.wrap IntKind.i64 ((0 : Int) - b) else if b > if IntKind.wrap IntKind.i64 ((0 : Int) - a) > if a > (0 : Int) then a else (0 : Int) then IntKind.wrap IntKind.i64 ((0 : Int) - a) else if a > (0 : Int) then a else (0 : Int) then b else if IntKind.wrap IntKind.i64 ((0 : Int) - a) > if a > (0 : Int) then a else (0 : Int) then IntKind.wrap IntKind.i64 ((0 : Int) - a) else if a > (0 : Int) then a else (0 : Int) then c else if IntKind.wrap IntKind.i64 ((0 : Int) - b) > if b > if IntKind.wrap IntKind.i64 ((0 : Int) - a) > if a > (0 : Int) then a else (0 : Int) then IntKind.wrap IntKind.i64 ((0 : Int) - a) else if a > (0 : Int) then a else (0 : Int) then b else if IntKind.wrap IntKind.i64 ((0 : Int) - a) > if a > (0 : Int) then a else (0 : Int) then IntKind.wrap IntKind.i64 ((0 : Int) - a) else if a > (0 : Int) then a else (0 : Int) then IntKind.wrap IntKind.i64 ((0 : Int) - b) else if b > if IntKind.wrap IntKind.i64 ((0 : Int) - a) > if a > (0 : Int) then a else (0 : Int) then IntKind.wrap IntKind.i64 ((0 : Int) - a) else if a > (0 : Int) then a else (0 : Int) then b else if IntKind.wrap IntKind.i64 ((0 : Int) - a) > if a > (0 : Int) then a else (0 : Int) then IntKind.wrap IntKind.i64 ((0 : Int) - a) else if a > (0 : Int) then a else (0 : Int) then d else if IntKind.wrap IntKind.i64 ((0 : Int) - c) > if c > if IntKind.wrap IntKind.i64 ((0 : Int) - b) > if b > if IntKind.wrap IntKind.i64 ((0 : Int) - a) > if a > (0 : Int) then a else (0 : Int) then IntKind.wrap IntKind.i64 ((0 : Int) - a) else if a > (0 : Int) then a else (0 : Int) then b else if IntKind.wrap IntKind.i64 ((0 : Int) - a) > if a > (0 : Int) then a else (0 : Int) then IntKind.wrap IntKind.i64 ((0 : Int) - a) else if a > (0 : Int) then a else (0 : Int) then IntKind.wrap IntKind.i64 ((0 : Int) - b) else if b > if IntKind.wrap IntKind.i64 ((0 : Int) - a) > if a > (0 : Int) then a else (0 : Int) then IntKind.wrap IntKind.i64 ((0 : Int) - a) else if a > (0 : Int) then a else (0 : Int) then b else if IntKind.wrap IntKind.i64 ((0 : Int) - a) > if a > (0 : Int) then a else (0 : Int) then IntKind.wrap IntKind.i64 ((0 : Int) - a) else if a > (0 : Int) then a else (0 : Int) then c else if IntKind.wrap IntKind.i64 ((0 : Int) - b) > if b > if IntKind.wrap IntKind.i64 ((0 : Int) - a) > if a > (0 : Int) then a else (0 : Int) then IntKind.wrap IntKind.i64 ((0 : Int) - a) else if a > (0 : Int) then a else (0 : Int) then b else if IntKind.wrap IntKind.i64 ((0 : Int) - a) > if a > (0 : Int) then a else (0 : Int) then IntKind.wrap IntKind.i64 ((0 : Int) - a) else if a > (0 : Int) then a else (0 : Int) then IntKind.wrap IntKind.i64 ((0 : Int) - b) else if b > if IntKind.wrap IntKind.i64 ((0 : Int) - a) > if a > (0 : Int) then a else (0 : Int) then IntKind.wrap IntKind.i64 ((0 : Int) - a) else if a > (0 : Int) then a else (0 : Int) then b else if IntKind.wrap IntKind.i64 ((0 : Int) - a) > if a > (0 : Int) then a else (0 : Int) then IntKind.wrap IntKind.i64 ((0 : Int) - a) else if a > (0 : Int) then a else (0 : Int) then IntKind.wrap IntKind.i64 ((0 : Int) - c) else if c > if IntKind.wrap IntKind.i64 ((0 : Int) - b) > if b > if IntKind.wrap IntKind.i64 ((0 : Int) - a) > if a > (0 : Int) then a else (0 : Int) then IntKind.wrap IntKind.i64 ((0 : Int) - a) else if a > (0 : Int) then a else (0 : Int) then b else if IntKind.wrap IntKind.i64 ((0 : Int) - a) > if a > (0 : Int) then a else (0 : Int) then IntKind.wrap IntKind.i64 ((0 : Int) - a) else if a > (0 : Int) then a else (0 : Int) then IntKind.wrap IntKind.i64 ((0 : Int) - b) else if b > if IntKind.wrap IntKind.i64 ((0 : Int) - a) > if a > (0 : Int) then a else (0 : Int) then IntKind.wrap IntKind.i64 ((0 : Int) - a) else if a > (0 : Int) then a else (0 : Int) then b else if IntKind.wrap IntKind.i64 ((0 : Int) - a) > if a > (0 : Int) then a else (0 : Int) then IntKind.wrap IntKind.i64 ((0 : Int) - a) else if a > (0 : Int) then a else (0 : Int) then c else if IntKind.wrap IntKind.i64 ((0 : Int) - b) > if b > if IntKind.wrap IntKind.i64 ((0 : Int) - a) > if a > (0 : Int) then a else (0 : Int) then IntKind.wrap IntKind.i64 ((0 : Int) - a) else if a > (0 : Int) then a else (0 : Int) then b else if IntKind.wrap IntKind.i64 ((0 : Int) - a) > if a > (0 : Int) then a else (0 : Int) then IntKind.wrap IntKind.i64 ((0 : Int) - a) else if a > (0 : Int) then a else (0 : Int) then IntKind.wrap IntKind.i64 ((0 : Int) - b) else if b > if IntKind.wrap IntKind.i64 ((0 : Int) - a) > if a > (0 : Int) then a else (0 : Int) then IntKind.wrap IntKind.i64 ((0 : Int) - a) else if a > (0 : Int) then a else (0 : Int) then b else if IntKind.wrap IntKind.i64 ((0 : Int) - a) > if a > (0 : Int) then a else (0 : Int) then IntKind.wrap IntKind.i64 ((0 : Int) - a) else if a > (0 : Int) then a else (0 : Int))))) : Tr AV).val = some (.one (.v false (.int .i64 (dom a b c d)))) := by
  refine congrArg (fun b => some (AV.one (.v false (.int .i64 b)))) ?_
  cases hv : dval a b c d
  · simp only [dom, hv]; rfl
  · obtain ⟨e0, e1, e2, e3, _⟩ := dv_iff.1 hv
    simp only [neg_w e0, neg_w e1, neg_w e2, neg_w e3, Bool.not_true, cond_false]
    simp only [dom, if_pos hv]; rfl
def dm_g : List AV → Option (Tr AV)
  | [.ag [.v _ (.int .i64 a), .v _ (.int .i64 b), .v _ (.int .i64 c), .v _ (.int .i64 d)]] => some (.ret (.one (.v false (.int .i64 (dom a b c d)))))
  | _ => none
set_option maxHeartbeats 4000000 in
theorem dm_ok : FunOK Try.prog 52 dm_g := by
  refine fun_ok (by kernel_rfl) (abA_S4_ok) (L0_ok _) 9 (On := (opens [])) (fun args t h => ?_)
  unfold dm_g at h
  split at h
  · rename_i _ a _ b _ c _ d
    simp only [Option.some.injEq] at h
    subst h
    refine ⟨[.ag [.v false (.int .i64 a), .v false (.int .i64 b), .v false (.int .i64 c), .v false (.int .i64 d)]], rfl, fun fr w us h => h, fun r hr => ?_⟩
    simp only [Tr.val, Option.some.injEq] at hr
    subst hr
    rw [dm_tree]
    exact dm_val a b c d
  · cases h
def abA_S5 : Sums := addS 52 dm_g abA_S4
theorem abA_S5_ok : SumOK Try.prog abA_S5 := addS_ok (dm_ok) (abA_S4_ok)
set_option maxRecDepth 100000 in
theorem rdm_tree (a : Int) (b : Int) (c : Int) (d : Int) : evalF Try.prog abA_S5 (opens []) L0 9 36 [.ag [.v false (.int .i64 a), .v false (.int .i64 b), .v false (.int .i64 c), .v false (.int .i64 d)]] = .ret (.one (.v false (.int .i64 (bif !dval a b c d then (0 : Int) else if (if IntKind.wrap IntKind.i64 ((0 : Int) - d) > d then IntKind.wrap IntKind.i64 ((0 : Int) - d) else d) > if (if IntKind.wrap IntKind.i64 ((0 : Int) - c) > c then IntKind.wrap IntKind.i64 ((0 : Int) - c) else c) > if (if IntKind.wrap IntKind.i64 ((0 : Int) - b) > b then IntKind.wrap IntKind.i64 ((0 : Int) - b) else b) > if (if IntKind.wrap IntKind.i64 ((0 : Int) - a) > a then IntKind.wrap IntKind.i64 ((0 : Int) - a) else a) > (0 : Int) then if IntKind.wrap IntKind.i64 ((0 : Int) - a) > a then IntKind.wrap IntKind.i64 ((0 : Int) - a) else a else (0 : Int) then if IntKind.wrap IntKind.i64 ((0 : Int) - b) > b then IntKind.wrap IntKind.i64 ((0 : Int) - b) else b else if (if IntKind.wrap IntKind.i64 ((0 : Int) - a) > a then IntKind.wrap IntKind.i64 ((0 : Int) - a) else a) > (0 : Int) then if IntKind.wrap IntKind.i64 ((0 : Int) - a) > a then IntKind.wrap IntKind.i64 ((0 : Int) - a) else a else (0 : Int) then if IntKind.wrap IntKind.i64 ((0 : Int) - c) > c then IntKind.wrap IntKind.i64 ((0 : Int) - c) else c else if (if IntKind.wrap IntKind.i64 ((0 : Int) - b) > b then IntKind.wrap IntKind.i64 ((0 : Int) - b) else b) > if (if IntKind.wrap IntKind.i64 ((0 : Int) - a) > a then IntKind.wrap IntKind.i64 ((0 : Int) - a) else a) > (0 : Int) then if IntKind.wrap IntKind.i64 ((0 : Int) - a) > a then IntKind.wrap IntKind.i64 ((0 : Int) - a) else a else (0 : Int) then if IntKind.wrap IntKind.i64 ((0 : Int) - b) > b then IntKind.wrap IntKind.i64 ((0 : Int) - b) else b else if (if IntKind.wrap IntKind.i64 ((0 : Int) - a) > a then IntKind.wrap IntKind.i64 ((0 : Int) - a) else a) > (0 : Int) then if IntKind.wrap IntKind.i64 ((0 : Int) - a) > a then IntKind.wrap IntKind.i64 ((0 : Int) - a) else a else (0 : Int) then if IntKind.wrap IntKind.i64 ((0 : Int) - d) > d then IntKind.wrap IntKind.i64 ((0 : Int) - d) else d else if (if IntKind.wrap IntKind.i64 ((0 : Int) - c) > c then IntKind.wrap IntKind.i64 ((0 : Int) - c) else c) > if (if IntKind.wrap IntKind.i64 ((0 : Int) - b) > b then IntKind.wrap IntKind.i64 ((0 : Int) - b) else b) > if (if IntKind.wrap IntKind.i64 ((0 : Int) - a) > a then IntKind.wrap IntKind.i64 ((0 : Int) - a) else a) > (0 : Int) then if IntKind.wrap IntKind.i64 ((0 : Int) - a) > a then IntKind.wrap IntKind.i64 ((0 : Int) - a) else a else (0 : Int) then if IntKind.wrap IntKind.i64 ((0 : Int) - b) > b then IntKind.wrap IntKind.i64 ((0 : Int) - b) else b else if (if IntKind.wrap IntKind.i64 ((0 : Int) - a) > a then IntKind.wrap IntKind.i64 ((0 : Int) - a) else a) > (0 : Int) then if IntKind.wrap IntKind.i64 ((0 : Int) - a) > a then IntKind.wrap IntKind.i64 ((0 : Int) - a) else a else (0 : Int) then if IntKind.wrap IntKind.i64 ((0 : Int) - c) > c then IntKind.wrap IntKind.i64 ((0 : Int) - c) else c else if (if IntKind.wrap IntKind.i64 ((0 : Int) - b) > b then IntKind.wrap IntKind.i64 ((0 : Int) - b) else b) > if (if IntKind.wrap IntKind.i64 ((0 : Int) - a) > a then IntKind.wrap IntKind.i64 ((0 : Int) - a) else a) > (0 : Int) then if IntKind.wrap IntKind.i64 ((0 : Int) - a) > a then IntKind.wrap IntKind.i64 ((0 : Int) - a) else a else (0 : Int) then if IntKind.wrap IntKind.i64 ((0 : Int) - b) > b then IntKind.wrap IntKind.i64 ((0 : Int) - b) else b else if (if IntKind.wrap IntKind.i64 ((0 : Int) - a) > a then IntKind.wrap IntKind.i64 ((0 : Int) - a) else a) > (0 : Int) then if IntKind.wrap IntKind.i64 ((0 : Int) - a) > a then IntKind.wrap IntKind.i64 ((0 : Int) - a) else a else (0 : Int))))) := by kernel_rfl
set_option maxHeartbeats 4000000 in
theorem rdm_val (a : Int) (b : Int) (c : Int) (d : Int) : (.ret (.one (.v false (.int .i64 (bif !dval a b c d then (0 : Int) else if (if IntKind.wrap IntKind.i64 ((0 : Int) - d) > d then IntKind.wrap IntKind.i64 ((0 : Int) - d) else d) > if (if IntKind.wrap IntKind.i64 ((0 : Int) - c) > c then IntKind.wrap IntKind.i64 ((0 : Int) - c) else c) > if (if IntKind.wrap IntKind.i64 ((0 : Int) - b) > b then IntKind.wrap IntKind.i64 ((0 : Int) - b) else b) > if (if IntKind.wrap IntKind.i64 ((0 : Int) - a) > a then IntKind.wrap IntKind.i64 ((0 : Int) - a) else a) > (0 : Int) then if IntKind.wrap IntKind.i64 ((0 : Int) - a) > a then IntKind.wrap IntKind.i64 ((0 : Int) - a) else a else (0 : Int) then if IntKind.wrap IntKind.i64 ((0 : Int) - b) > b then IntKind.wrap IntKind.i64 ((0 : Int) - b) else b else if (if IntKind.wrap IntKind.i64 ((0 : Int) - a) > a then IntKind.wrap IntKind.i64 ((0 : Int) - a) else a) > (0 : Int) then if IntKind.wrap IntKind.i64 ((0 : Int) - a) > a then IntKind.wrap IntKind.i64 ((0 : Int) - a) else a else (0 : Int) then if IntKind.wrap IntKind.i64 ((0 : Int) - c) > c then IntKind.wrap IntKind.i64 ((0 : Int) - c) else c else if (if IntKind.wrap IntKind.i64 ((0 : Int) - b) > b then IntKind.wrap IntKind.i64 ((0 : Int) - b) else b) > if (if IntKind.wrap IntKind.i64 ((0 : Int) - a) > a then IntKind.wrap IntKind.i64 ((0 : Int) - a) else a) > (0 : Int) then if IntKind.wrap IntKind.i64 ((0 : Int) - a) > a then IntKind.wrap IntKind.i64 ((0 : Int) - a) else a else (0 : Int) then if IntKind.wrap IntKind.i64 ((0 : Int) - b) > b then IntKind.wrap IntKind.i64 ((0 : Int) - b) else b else if (if IntKind.wrap IntKind.i64 ((0 : Int) - a) > a then IntKind.wrap IntKind.i64 ((0 : Int) - a) else a) > (0 : Int) then if IntKind.wrap IntKind.i64 ((0 : Int) - a) > a then IntKind.wrap IntKind.i64 ((0 : Int) - a) else a else (0 : Int) then if IntKind.wrap IntKind.i64 ((0 : Int) - d) > d then IntKind.wrap IntKind.i64 ((0 : Int) - d) else d else if (if IntKind.wrap IntKind.i64 ((0 : Int) - c) > c then IntKind.wrap IntKind.i64 ((0 : Int) - c) else c) > if (if IntKind.wrap IntKind.i64 ((0 : Int) - b) > b then IntKind.wrap IntKind.i64 ((0 : Int) - b) else b) > if (if IntKind.wrap IntKind.i64 ((0 : Int) - a) > a then IntKind.wrap IntKind.i64 ((0 : Int) - a) else a) > (0 : Int) then if IntKind.wrap IntKind.i64 ((0 : Int) - a) > a then IntKind.wrap IntKind.i64 ((0 : Int) - a) else a else (0 : Int) then if IntKind.wrap IntKind.i64 ((0 : Int) - b) > b then IntKind.wrap IntKind.i64 ((0 : Int) - b) else b else if (if IntKind.wrap IntKind.i64 ((0 : Int) - a) > a then IntKind.wrap IntKind.i64 ((0 : Int) - a) else a) > (0 : Int) then if IntKind.wrap IntKind.i64 ((0 : Int) - a) > a then IntKind.wrap IntKind.i64 ((0 : Int) - a) else a else (0 : Int) then if IntKind.wrap IntKind.i64 ((0 : Int) - c) > c then IntKind.wrap IntKind.i64 ((0 : Int) - c) else c else if (if IntKind.wrap IntKind.i64 ((0 : Int) - b) > b then IntKind.wrap IntKind.i64 ((0 : Int) - b) else b) > if (if IntKind.wrap IntKind.i64 ((0 : Int) - a) > a then IntKind.wrap IntKind.i64 ((0 : Int) - a) else a) > (0 : Int) then if IntKind.wrap IntKind.i64 ((0 : Int) - a) > a then IntKind.wrap IntKind.i64 ((0 : Int) - a) else a else (0 : Int) then if IntKind.wrap IntKind.i64 ((0 : Int) - b) > b then IntKind.wrap IntKind.i64 ((0 : Int) - b) else b else if (if IntKind.wrap IntKind.i64 ((0 : Int) - a) > a then IntKind.wrap IntKind.i64 ((0 : Int) - a) else a) > (0 : Int) then if IntKind.wrap IntKind.i64 ((0 : Int) - a) > a then IntKind.wrap IntKind.i64 ((0 : Int) - a) else a else (0 : Int))))) : Tr AV).val = some (.one (.v false (.int .i64 (dom a b c d)))) := by
  refine congrArg (fun b => some (AV.one (.v false (.int .i64 b)))) ?_
  cases hv : dval a b c d
  · simp only [dom, hv]; rfl
  · obtain ⟨e0, e1, e2, e3, _⟩ := dv_iff.1 hv
    simp only [neg_w e0, neg_w e1, neg_w e2, neg_w e3, Bool.not_true, cond_false]
    show mx (mx (mx (mx 0 (mx a (0 - a))) (mx b (0 - b))) (mx c (0 - c))) (mx d (0 - d)) = _
    simp only [dom, if_pos hv, mx_assoc]
def rdm_g : List AV → Option (Tr AV)
  | [.ag [.v _ (.int .i64 a), .v _ (.int .i64 b), .v _ (.int .i64 c), .v _ (.int .i64 d)]] => some (.ret (.one (.v false (.int .i64 (dom a b c d)))))
  | _ => none
set_option maxHeartbeats 4000000 in
theorem rdm_ok : FunOK Try.prog 36 rdm_g := by
  refine fun_ok (by kernel_rfl) (abA_S5_ok) (L0_ok _) 9 (On := (opens [])) (fun args t h => ?_)
  unfold rdm_g at h
  split at h
  · rename_i _ a _ b _ c _ d
    simp only [Option.some.injEq] at h
    subst h
    refine ⟨[.ag [.v false (.int .i64 a), .v false (.int .i64 b), .v false (.int .i64 c), .v false (.int .i64 d)]], rfl, fun fr w us h => h, fun r hr => ?_⟩
    simp only [Tr.val, Option.some.injEq] at hr
    subst hr
    rw [rdm_tree]
    exact rdm_val a b c d
  · cases h
def abA_S6 : Sums := addS 36 rdm_g abA_S5
theorem abA_S6_ok : SumOK Try.prog abA_S6 := addS_ok (rdm_ok) (abA_S5_ok)
set_option maxRecDepth 100000 in
theorem av_tree (a : Int) (b : Int) (c : Int) (d : Int) (ac : Int) (en : Int) (cr : Int) (ex : Int) : evalF Try.prog abA_S6 (opens []) L0 9 38 [.ag [.v false (.int .i64 a), .v false (.int .i64 b), .v false (.int .i64 c), .v false (.int .i64 d), .v false (.int .i64 ac), .v false (.int .i64 en), .v false (.int .i64 cr), .v false (.int .i64 ex)]] = .ret (.one (.v false (.bool (bif bif bif bif dval a b c d then bif decide (ac ≥ (1 : Int)) then decide (ac ≤ (16777216 : Int)) else false else false then bif decide (cr ≥ (1 : Int)) then decide (cr ≤ (1099511627776 : Int)) else false else false then decide ((if ex < en then ex else en) ≥ (0 : Int)) else false then decide ((if ex > en then ex else en) ≤ cr) else false)))) := by kernel_rfl
set_option maxHeartbeats 4000000 in
theorem av_val (a : Int) (b : Int) (c : Int) (d : Int) (ac : Int) (en : Int) (cr : Int) (ex : Int) : (.ret (.one (.v false (.bool (bif bif bif bif dval a b c d then bif decide (ac ≥ (1 : Int)) then decide (ac ≤ (16777216 : Int)) else false else false then bif decide (cr ≥ (1 : Int)) then decide (cr ≤ (1099511627776 : Int)) else false else false then decide ((if ex < en then ex else en) ≥ (0 : Int)) else false then decide ((if ex > en then ex else en) ≤ cr) else false)))) : Tr AV).val = some (.one (.v false (.bool (bval a b c d ac en cr ex)))) := by
  refine congrArg (fun b => some (AV.one (.v false (.bool b)))) ?_
  rw [Bool.eq_iff_iff, bv_iff]
  simp only [Bool.cond_eq_ite]
  cases dval a b c d
  · simp
  · by_cases z1 : ex < en <;> by_cases z2 : ex > en <;> simp only [z1, z2, if_true, if_false] <;> constructor <;> intro h <;> simp at h ⊢ <;> omega
def av_g : List AV → Option (Tr AV)
  | [.ag [.v _ (.int .i64 a), .v _ (.int .i64 b), .v _ (.int .i64 c), .v _ (.int .i64 d), .v _ (.int .i64 ac), .v _ (.int .i64 en), .v _ (.int .i64 cr), .v _ (.int .i64 ex)]] => some (.ret (.one (.v false (.bool (bval a b c d ac en cr ex)))))
  | _ => none
set_option maxHeartbeats 4000000 in
theorem av_ok : FunOK Try.prog 38 av_g := by
  refine fun_ok (by kernel_rfl) (abA_S6_ok) (L0_ok _) 9 (On := (opens [])) (fun args t h => ?_)
  unfold av_g at h
  split at h
  · rename_i _ a _ b _ c _ d _ ac _ en _ cr _ ex
    simp only [Option.some.injEq] at h
    subst h
    refine ⟨[.ag [.v false (.int .i64 a), .v false (.int .i64 b), .v false (.int .i64 c), .v false (.int .i64 d), .v false (.int .i64 ac), .v false (.int .i64 en), .v false (.int .i64 cr), .v false (.int .i64 ex)]], rfl, fun fr w us h => h, fun r hr => ?_⟩
    simp only [Tr.val, Option.some.injEq] at hr
    subst hr
    rw [av_tree]
    exact av_val a b c d ac en cr ex
  · cases h
def abA_S7 : Sums := addS 38 av_g abA_S6
theorem abA_S7_ok : SumOK Try.prog abA_S7 := addS_ok (av_ok) (abA_S6_ok)
set_option maxRecDepth 100000 in
theorem rav_tree (a : Int) (b : Int) (c : Int) (d : Int) (ac : Int) (en : Int) (cr : Int) (ex : Int) : evalF Try.prog abA_S7 (opens []) L0 9 42 [.ag [.v false (.int .i64 a), .v false (.int .i64 b), .v false (.int .i64 c), .v false (.int .i64 d), .v false (.int .i64 ac), .v false (.int .i64 en), .v false (.int .i64 cr), .v false (.int .i64 ex)]] = .ret (.one (.v false (.bool (bif bif bif bif bif bif bif bif dval a b c d then decide (ac ≥ (1 : Int)) else false then decide (ac ≤ (16777216 : Int)) else false then decide (cr ≥ (1 : Int)) else false then decide (cr ≤ (1099511627776 : Int)) else false then decide (en ≥ (0 : Int)) else false then decide (en ≤ cr) else false then decide (ex ≥ (0 : Int)) else false then decide (ex ≤ cr) else false)))) := by kernel_rfl
set_option maxHeartbeats 4000000 in
theorem rav_val (a : Int) (b : Int) (c : Int) (d : Int) (ac : Int) (en : Int) (cr : Int) (ex : Int) : (.ret (.one (.v false (.bool (bif bif bif bif bif bif bif bif dval a b c d then decide (ac ≥ (1 : Int)) else false then decide (ac ≤ (16777216 : Int)) else false then decide (cr ≥ (1 : Int)) else false then decide (cr ≤ (1099511627776 : Int)) else false then decide (en ≥ (0 : Int)) else false then decide (en ≤ cr) else false then decide (ex ≥ (0 : Int)) else false then decide (ex ≤ cr) else false)))) : Tr AV).val = some (.one (.v false (.bool (bval a b c d ac en cr ex)))) := by
  refine congrArg (fun b => some (AV.one (.v false (.bool b)))) ?_
  rw [Bool.eq_iff_iff, bv_iff]
  simp only [Bool.cond_eq_ite]
  cases dval a b c d
  · simp
  · by_cases z1 : ex < en <;> by_cases z2 : ex > en <;> simp only [z1, z2, if_true, if_false] <;> constructor <;> intro h <;> simp at h ⊢ <;> omega
def rav_g : List AV → Option (Tr AV)
  | [.ag [.v _ (.int .i64 a), .v _ (.int .i64 b), .v _ (.int .i64 c), .v _ (.int .i64 d), .v _ (.int .i64 ac), .v _ (.int .i64 en), .v _ (.int .i64 cr), .v _ (.int .i64 ex)]] => some (.ret (.one (.v false (.bool (bval a b c d ac en cr ex)))))
  | _ => none
set_option maxHeartbeats 4000000 in
theorem rav_ok : FunOK Try.prog 42 rav_g := by
  refine fun_ok (by kernel_rfl) (abA_S7_ok) (L0_ok _) 9 (On := (opens [])) (fun args t h => ?_)
  unfold rav_g at h
  split at h
  · rename_i _ a _ b _ c _ d _ ac _ en _ cr _ ex
    simp only [Option.some.injEq] at h
    subst h
    refine ⟨[.ag [.v false (.int .i64 a), .v false (.int .i64 b), .v false (.int .i64 c), .v false (.int .i64 d), .v false (.int .i64 ac), .v false (.int .i64 en), .v false (.int .i64 cr), .v false (.int .i64 ex)]], rfl, fun fr w us h => h, fun r hr => ?_⟩
    simp only [Tr.val, Option.some.injEq] at hr
    subst hr
    rw [rav_tree]
    exact rav_val a b c d ac en cr ex
  · cases h
def abA_S8 : Sums := addS 42 rav_g abA_S7
theorem abA_S8_ok : SumOK Try.prog abA_S8 := addS_ok (rav_ok) (abA_S7_ok)
def sval (a b c d ac cr : Int) : Bool := dval a b c d && (decide (1 ≤ ac) && (decide (ac ≤ 16777216) && (decide (1 ≤ cr) && decide (cr ≤ 1099511627776))))
set_option maxRecDepth 100000 in
theorem snd_tree (a : Int) (b : Int) (c : Int) (d : Int) (ac : Int) (en : Int) (cr : Int) (ex : Int) : evalF Try.prog abA_S8 (opens []) L0 9 45 [.ag [.v false (.int .i64 a), .v false (.int .i64 b), .v false (.int .i64 c), .v false (.int .i64 d), .v false (.int .i64 ac), .v false (.int .i64 en), .v false (.int .i64 cr), .v false (.int .i64 ex)]] = .ret (.one (.v false (.bool (bif bif dval a b c d then bif decide (ac ≥ (1 : Int)) then decide (ac ≤ (16777216 : Int)) else false else false then bif decide (cr ≥ (1 : Int)) then decide (cr ≤ (1099511627776 : Int)) else false else false)))) := by kernel_rfl
set_option maxHeartbeats 4000000 in
theorem snd_val (a : Int) (b : Int) (c : Int) (d : Int) (ac : Int) (en : Int) (cr : Int) (ex : Int) : (.ret (.one (.v false (.bool (bif bif dval a b c d then bif decide (ac ≥ (1 : Int)) then decide (ac ≤ (16777216 : Int)) else false else false then bif decide (cr ≥ (1 : Int)) then decide (cr ≤ (1099511627776 : Int)) else false else false)))) : Tr AV).val = some (.one (.v false (.bool (sval a b c d ac cr)))) := by
  refine congrArg (fun b => some (AV.one (.v false (.bool b)))) ?_
  rw [Bool.eq_iff_iff]
  unfold sval
  simp only [Bool.cond_eq_ite]
  cases dval a b c d
  · simp
  · constructor <;> intro h <;> simp at h ⊢ <;> omega
def snd_g : List AV → Option (Tr AV)
  | [.ag [.v _ (.int .i64 a), .v _ (.int .i64 b), .v _ (.int .i64 c), .v _ (.int .i64 d), .v _ (.int .i64 ac), .v _ (.int .i64 en), .v _ (.int .i64 cr), .v _ (.int .i64 ex)]] => some (.ret (.one (.v false (.bool (sval a b c d ac cr)))))
  | _ => none
set_option maxHeartbeats 4000000 in
theorem snd_ok : FunOK Try.prog 45 snd_g := by
  refine fun_ok (by kernel_rfl) (abA_S8_ok) (L0_ok _) 9 (On := (opens [])) (fun args t h => ?_)
  unfold snd_g at h
  split at h
  · rename_i _ a _ b _ c _ d _ ac _ en _ cr _ ex
    simp only [Option.some.injEq] at h
    subst h
    refine ⟨[.ag [.v false (.int .i64 a), .v false (.int .i64 b), .v false (.int .i64 c), .v false (.int .i64 d), .v false (.int .i64 ac), .v false (.int .i64 en), .v false (.int .i64 cr), .v false (.int .i64 ex)]], rfl, fun fr w us h => h, fun r hr => ?_⟩
    simp only [Tr.val, Option.some.injEq] at hr
    subst hr
    rw [snd_tree]
    exact snd_val a b c d ac en cr ex
  · cases h
def abA_S9 : Sums := addS 45 snd_g abA_S8
theorem abA_S9_ok : SumOK Try.prog abA_S9 := addS_ok (snd_ok) (abA_S8_ok)

set_option maxRecDepth 100000 in
theorem rsn_tree (a : Int) (b : Int) (c : Int) (d : Int) (ac : Int) (en : Int) (cr : Int) (ex : Int) : evalF Try.prog abA_S9 (opens []) L0 9 48 [.ag [.v false (.int .i64 a), .v false (.int .i64 b), .v false (.int .i64 c), .v false (.int .i64 d), .v false (.int .i64 ac), .v false (.int .i64 en), .v false (.int .i64 cr), .v false (.int .i64 ex)]] = .ret (.one (.v false (.bool (bif bif bif bif dval a b c d then decide (ac ≥ (1 : Int)) else false then decide (ac ≤ (16777216 : Int)) else false then decide (cr ≥ (1 : Int)) else false then decide (cr ≤ (1099511627776 : Int)) else false)))) := by kernel_rfl
set_option maxHeartbeats 4000000 in
theorem rsn_val (a : Int) (b : Int) (c : Int) (d : Int) (ac : Int) (en : Int) (cr : Int) (ex : Int) : (.ret (.one (.v false (.bool (bif bif bif bif dval a b c d then decide (ac ≥ (1 : Int)) else false then decide (ac ≤ (16777216 : Int)) else false then decide (cr ≥ (1 : Int)) else false then decide (cr ≤ (1099511627776 : Int)) else false)))) : Tr AV).val = some (.one (.v false (.bool (sval a b c d ac cr)))) := by
  refine congrArg (fun b => some (AV.one (.v false (.bool b)))) ?_
  rw [Bool.eq_iff_iff]
  unfold sval
  simp only [Bool.cond_eq_ite]
  cases dval a b c d
  · simp
  · constructor <;> intro h <;> simp at h ⊢ <;> omega
def rsn_g : List AV → Option (Tr AV)
  | [.ag [.v _ (.int .i64 a), .v _ (.int .i64 b), .v _ (.int .i64 c), .v _ (.int .i64 d), .v _ (.int .i64 ac), .v _ (.int .i64 en), .v _ (.int .i64 cr), .v _ (.int .i64 ex)]] => some (.ret (.one (.v false (.bool (sval a b c d ac cr)))))
  | _ => none
set_option maxHeartbeats 4000000 in
theorem rsn_ok : FunOK Try.prog 48 rsn_g := by
  refine fun_ok (by kernel_rfl) (abA_S9_ok) (L0_ok _) 9 (On := (opens [])) (fun args t h => ?_)
  unfold rsn_g at h
  split at h
  · rename_i _ a _ b _ c _ d _ ac _ en _ cr _ ex
    simp only [Option.some.injEq] at h
    subst h
    refine ⟨[.ag [.v false (.int .i64 a), .v false (.int .i64 b), .v false (.int .i64 c), .v false (.int .i64 d), .v false (.int .i64 ac), .v false (.int .i64 en), .v false (.int .i64 cr), .v false (.int .i64 ex)]], rfl, fun fr w us h => h, fun r hr => ?_⟩
    simp only [Tr.val, Option.some.injEq] at hr
    subst hr
    rw [rsn_tree]
    exact rsn_val a b c d ac en cr ex
  · cases h
def abA_S10 : Sums := addS 48 rsn_g abA_S9
theorem abA_S10_ok : SumOK Try.prog abA_S10 := addS_ok (rsn_ok) (abA_S9_ok)
def reach (a b c d ac : Int) : Int := IntKind.wrap IntKind.i64 (IntKind.wrap IntKind.i64 ((2 : Int) * ac) * dom a b c d)
set_option maxRecDepth 100000 in
theorem rch_tree (a : Int) (b : Int) (c : Int) (d : Int) (ac : Int) (en : Int) (cr : Int) (ex : Int) : evalF Try.prog abA_S10 (opens []) L0 9 41 [.ag [.v false (.int .i64 a), .v false (.int .i64 b), .v false (.int .i64 c), .v false (.int .i64 d), .v false (.int .i64 ac), .v false (.int .i64 en), .v false (.int .i64 cr), .v false (.int .i64 ex)]] = .ret (.one (.v false (.int .i64 (IntKind.wrap IntKind.i64 (IntKind.wrap IntKind.i64 ((2 : Int) * ac) * dom a b c d))))) := by kernel_rfl
set_option maxHeartbeats 4000000 in
theorem rch_val (a : Int) (b : Int) (c : Int) (d : Int) (ac : Int) (en : Int) (cr : Int) (ex : Int) : (.ret (.one (.v false (.int .i64 (IntKind.wrap IntKind.i64 (IntKind.wrap IntKind.i64 ((2 : Int) * ac) * dom a b c d))))) : Tr AV).val = some (.one (.v false (.int .i64 (reach a b c d ac)))) := by
  rfl
def rch_g : List AV → Option (Tr AV)
  | [.ag [.v _ (.int .i64 a), .v _ (.int .i64 b), .v _ (.int .i64 c), .v _ (.int .i64 d), .v _ (.int .i64 ac), .v _ (.int .i64 en), .v _ (.int .i64 cr), .v _ (.int .i64 ex)]] => some (.ret (.one (.v false (.int .i64 (reach a b c d ac)))))
  | _ => none
set_option maxHeartbeats 4000000 in
theorem rch_ok : FunOK Try.prog 41 rch_g := by
  refine fun_ok (by kernel_rfl) (abA_S10_ok) (L0_ok _) 9 (On := (opens [])) (fun args t h => ?_)
  unfold rch_g at h
  split at h
  · rename_i _ a _ b _ c _ d _ ac _ en _ cr _ ex
    simp only [Option.some.injEq] at h
    subst h
    refine ⟨[.ag [.v false (.int .i64 a), .v false (.int .i64 b), .v false (.int .i64 c), .v false (.int .i64 d), .v false (.int .i64 ac), .v false (.int .i64 en), .v false (.int .i64 cr), .v false (.int .i64 ex)]], rfl, fun fr w us h => h, fun r hr => ?_⟩
    simp only [Tr.val, Option.some.injEq] at hr
    subst hr
    rw [rch_tree]
    exact rch_val a b c d ac en cr ex
  · cases h
def abA_S11 : Sums := addS 41 rch_g abA_S10
theorem abA_S11_ok : SumOK Try.prog abA_S11 := addS_ok (rch_ok) (abA_S10_ok)
set_option maxRecDepth 100000 in
theorem rrc_tree (a : Int) (b : Int) (c : Int) (d : Int) (ac : Int) (en : Int) (cr : Int) (ex : Int) : evalF Try.prog abA_S11 (opens []) L0 9 21 [.ag [.v false (.int .i64 a), .v false (.int .i64 b), .v false (.int .i64 c), .v false (.int .i64 d), .v false (.int .i64 ac), .v false (.int .i64 en), .v false (.int .i64 cr), .v false (.int .i64 ex)]] = .ret (.one (.v false (.int .i64 (IntKind.wrap IntKind.i64 (IntKind.wrap IntKind.i64 ((2 : Int) * ac) * dom a b c d))))) := by kernel_rfl
set_option maxHeartbeats 4000000 in
theorem rrc_val (a : Int) (b : Int) (c : Int) (d : Int) (ac : Int) (en : Int) (cr : Int) (ex : Int) : (.ret (.one (.v false (.int .i64 (IntKind.wrap IntKind.i64 (IntKind.wrap IntKind.i64 ((2 : Int) * ac) * dom a b c d))))) : Tr AV).val = some (.one (.v false (.int .i64 (reach a b c d ac)))) := by
  rfl
def rrc_g : List AV → Option (Tr AV)
  | [.ag [.v _ (.int .i64 a), .v _ (.int .i64 b), .v _ (.int .i64 c), .v _ (.int .i64 d), .v _ (.int .i64 ac), .v _ (.int .i64 en), .v _ (.int .i64 cr), .v _ (.int .i64 ex)]] => some (.ret (.one (.v false (.int .i64 (reach a b c d ac)))))
  | _ => none
set_option maxHeartbeats 4000000 in
theorem rrc_ok : FunOK Try.prog 21 rrc_g := by
  refine fun_ok (by kernel_rfl) (abA_S11_ok) (L0_ok _) 9 (On := (opens [])) (fun args t h => ?_)
  unfold rrc_g at h
  split at h
  · rename_i _ a _ b _ c _ d _ ac _ en _ cr _ ex
    simp only [Option.some.injEq] at h
    subst h
    refine ⟨[.ag [.v false (.int .i64 a), .v false (.int .i64 b), .v false (.int .i64 c), .v false (.int .i64 d), .v false (.int .i64 ac), .v false (.int .i64 en), .v false (.int .i64 cr), .v false (.int .i64 ex)]], rfl, fun fr w us h => h, fun r hr => ?_⟩
    simp only [Tr.val, Option.some.injEq] at hr
    subst hr
    rw [rrc_tree]
    exact rrc_val a b c d ac en cr ex
  · cases h
def abA_S12 : Sums := addS 21 rrc_g abA_S11
theorem abA_S12_ok : SumOK Try.prog abA_S12 := addS_ok (rrc_ok) (abA_S11_ok)
end Go.Proofs.Ytaidlflnkdamkaa
