/-
  Layer 49: Step and Aim.
-/
import Derived.Test.YtbfkddnehdoliaaProg
import Derived.Test.YtbfkddnehdoliaaFvX
import Derived.Test.YtbfkddnehdoliaaFvZ
namespace Go.Proofs.Ytbfkddnehdoliaa
open Go
set_option maxRecDepth 100000 in
theorem aw13_tree : evalF Try.prog S0 (opens []) L0 8 13 [] = .ret (.one (.v true (.bool true))) := by kernel_rfl
def crA_S2 : Sums := addS 13 gTrue S0
theorem crA_S2_ok : SumOK Try.prog crA_S2 := addS_ok (gTrue_ok (by kernel_rfl) (S0_ok _) (L0_ok _) aw13_tree) (S0_ok _)
def cl (x lo hi : Int) : Int := if (if hi < x then hi else x) > lo then if hi < x then hi else x else lo
theorem cl_eq (x lo hi : Int) (h : lo ≤ hi) : lo ≤ cl x lo hi ∧ cl x lo hi ≤ hi ∧ ((x < lo ∧ cl x lo hi = lo) ∨ (hi < x ∧ cl x lo hi = hi) ∨ (lo ≤ x ∧ x ≤ hi ∧ cl x lo hi = x)) := by
  unfold cl; split <;> split <;> omega
def flo (a b : Int) : Int := bif b == 0 then 0 else bif bif a == -9223372036854775808 then b == -1 else false then 0 else bif bif Int.tmod a b != 0 then !decide (Int.tmod a b < 0) == decide (b < 0) else false then IntKind.i64.wrap (IntKind.i64.wrap (Int.tdiv a b) - 1) else IntKind.i64.wrap (Int.tdiv a b)
def floe (a b : Int) : Int := bif b == 0 then 4 else bif bif a == -9223372036854775808 then b == -1 else false then 3 else 0
theorem tmod_sign {a b : Int} (h : Int.tmod a b ≠ 0) : decide (Int.tmod a b < 0) = decide (a < 0) := by
  by_cases ha : a < 0
  · have h1 : Int.tmod a b ≤ 0 := by
      have := Int.tmod_nonneg (a := -a) b (by omega)
      rw [Int.neg_tmod] at this; omega
    simp only [ha, decide_true, decide_eq_true_eq]; omega
  · have h1 : 0 ≤ Int.tmod a b := Int.tmod_nonneg b (by omega)
    simp only [ha, decide_false, decide_eq_false_iff_not]; omega
def cval (tg kp ki sc su li : Int) : Bool := decide (0 ≤ tg) && (decide (tg ≤ 400000) && (decide (0 ≤ kp) && (decide (kp ≤ 1048576) && (decide (0 ≤ ki) && (decide (ki ≤ 1048576) && (decide (1 ≤ sc) && (decide (sc ≤ 1073741824) && (decide (0 ≤ li) && (decide (li ≤ 1099511627776) && (decide (0 ≤ su) && decide (su ≤ li)))))))))))
set_option maxRecDepth 100000 in
theorem nc_tree (x : Int) (lo : Int) (hi : Int) : evalF Try.prog crA_S2 (opens []) L0 8 30 [.one (.v false (.int .i64 x)), .one (.v false (.int .i64 lo)), .one (.v false (.int .i64 hi))] = .ret (.one (.v false (.int .i64 (if (if hi < x then hi else x) > lo then if hi < x then hi else x else lo)))) := by kernel_rfl
theorem nc_val (x : Int) (lo : Int) (hi : Int) (hc : (true) = true) : (.ret (.one (.v false (.int .i64 (if (if hi < x then hi else x) > lo then if hi < x then hi else x else lo)))) : Tr AV).val = some (.one (.v false (.int .i64 (cl x lo hi)))) := by
  rfl
def nc_g : List AV → Option (Tr AV)
  | [.one (.v _ (.int .i64 x)), .one (.v _ (.int .i64 lo)), .one (.v _ (.int .i64 hi))] => some (.br (true) (.ret (.one (.v false (.int .i64 (cl x lo hi))))) (.bad 900))
  | _ => none
theorem nc_ok : FunOK Try.prog 30 nc_g := by
  refine fun_ok (by kernel_rfl) (crA_S2_ok) (L0_ok _) 8 (On := (opens [])) (fun args t h => ?_)
  unfold nc_g at h
  split at h
  · rename_i _ x _ lo _ hi
    simp only [Option.some.injEq] at h
    subst h
    refine ⟨[.one (.v false (.int .i64 x)), .one (.v false (.int .i64 lo)), .one (.v false (.int .i64 hi))], rfl, fun fr w us h => h, fun r hr => ?_⟩
    obtain ⟨hc, hr⟩ := br_bad hr
    simp only [Tr.val, Option.some.injEq] at hr
    subst hr
    rw [nc_tree]
    exact nc_val x lo hi hc
  · cases h
def crA_S3 : Sums := addS 30 nc_g crA_S2
theorem crA_S3_ok : SumOK Try.prog crA_S3 := addS_ok (nc_ok) (crA_S2_ok)
set_option maxRecDepth 100000 in
theorem rc_tree (x : Int) (lo : Int) (hi : Int) : evalF Try.prog crA_S3 (opens []) L0 8 33 [.one (.v false (.int .i64 x)), .one (.v false (.int .i64 lo)), .one (.v false (.int .i64 hi))] = .ret (.one (.v false (.int .i64 (if (if hi < x then hi else x) > lo then if hi < x then hi else x else lo)))) := by kernel_rfl
theorem rc_val (x : Int) (lo : Int) (hi : Int) (hc : (true) = true) : (.ret (.one (.v false (.int .i64 (if (if hi < x then hi else x) > lo then if hi < x then hi else x else lo)))) : Tr AV).val = some (.one (.v false (.int .i64 (cl x lo hi)))) := by
  rfl
def rc_g : List AV → Option (Tr AV)
  | [.one (.v _ (.int .i64 x)), .one (.v _ (.int .i64 lo)), .one (.v _ (.int .i64 hi))] => some (.br (true) (.ret (.one (.v false (.int .i64 (cl x lo hi))))) (.bad 900))
  | _ => none
theorem rc_ok : FunOK Try.prog 33 rc_g := by
  refine fun_ok (by kernel_rfl) (crA_S3_ok) (L0_ok _) 8 (On := (opens [])) (fun args t h => ?_)
  unfold rc_g at h
  split at h
  · rename_i _ x _ lo _ hi
    simp only [Option.some.injEq] at h
    subst h
    refine ⟨[.one (.v false (.int .i64 x)), .one (.v false (.int .i64 lo)), .one (.v false (.int .i64 hi))], rfl, fun fr w us h => h, fun r hr => ?_⟩
    obtain ⟨hc, hr⟩ := br_bad hr
    simp only [Tr.val, Option.some.injEq] at hr
    subst hr
    rw [rc_tree]
    exact rc_val x lo hi hc
  · cases h
def crA_S4 : Sums := addS 33 rc_g crA_S3
theorem crA_S4_ok : SumOK Try.prog crA_S4 := addS_ok (rc_ok) (crA_S3_ok)
set_option maxRecDepth 100000 in
theorem nf_tree (a : Int) (b : Int) : evalF Try.prog crA_S4 (opens []) L0 8 31 [.one (.v false (.int .i64 a)), .one (.v false (.int .i64 b))] = .br (((bif b == (0 : Int) then true else (bif bif a == (-9223372036854775808 : Int) then b == (-1 : Int) else false then true else ((b != (0 : Int)) && (b != (0 : Int))))))) (.ret (.tup [(false, [.v false (.int .i64 (bif b == (0 : Int) then (0 : Int) else   bif bif a == (-9223372036854775808 : Int) then b == (-1 : Int) else false then (0 : Int)   else     bif         bif Int.tmod a b != (0 : Int) then           match false with           | true => decide (Int.tmod a b < (0 : Int)) == decide (b < (0 : Int))           | false => !decide (Int.tmod a b < (0 : Int)) == decide (b < (0 : Int))         else false then       IntKind.wrap IntKind.i64 (IntKind.wrap IntKind.i64 (Int.tdiv a b) - (1 : Int))     else IntKind.wrap IntKind.i64 (Int.tdiv a b)))]), (false, [.v false (.int .i64 (bif b == (0 : Int) then (4 : Int) else   bif bif a == (-9223372036854775808 : Int) then b == (-1 : Int) else false then (3 : Int)   else     bif         bif Int.tmod a b != (0 : Int) then           match false with           | true => decide (Int.tmod a b < (0 : Int)) == decide (b < (0 : Int))           | false => !decide (Int.tmod a b < (0 : Int)) == decide (b < (0 : Int))         else false then       (0 : Int)     else (0 : Int)))])])) (.bad 116) := by kernel_rfl
theorem nf_val (a : Int) (b : Int) (hc : (true) = true) : (.br (((bif b == (0 : Int) then true else (bif bif a == (-9223372036854775808 : Int) then b == (-1 : Int) else false then true else ((b != (0 : Int)) && (b != (0 : Int))))))) (.ret (.tup [(false, [.v false (.int .i64 (bif b == (0 : Int) then (0 : Int) else   bif bif a == (-9223372036854775808 : Int) then b == (-1 : Int) else false then (0 : Int)   else     bif         bif Int.tmod a b != (0 : Int) then           match false with           | true => decide (Int.tmod a b < (0 : Int)) == decide (b < (0 : Int))           | false => !decide (Int.tmod a b < (0 : Int)) == decide (b < (0 : Int))         else false then       IntKind.wrap IntKind.i64 (IntKind.wrap IntKind.i64 (Int.tdiv a b) - (1 : Int))     else IntKind.wrap IntKind.i64 (Int.tdiv a b)))]), (false, [.v false (.int .i64 (bif b == (0 : Int) then (4 : Int) else   bif bif a == (-9223372036854775808 : Int) then b == (-1 : Int) else false then (3 : Int)   else     bif         bif Int.tmod a b != (0 : Int) then           match false with           | true => decide (Int.tmod a b < (0 : Int)) == decide (b < (0 : Int))           | false => !decide (Int.tmod a b < (0 : Int)) == decide (b < (0 : Int))         else false then       (0 : Int)     else (0 : Int)))])])) (.bad 116) : Tr AV).val = some (.tup [(false, [.v false (.int .i64 (flo a b))]), (false, [.v false (.int .i64 (floe a b))])]) := by
  by_cases hb : b = 0
  · subst hb; rfl
  · have e : (b == 0) = false := beq_false_of_ne hb
    simp only [flo, floe, e, cond_false, Tr.val]
    cases hc : (bif a == (-9223372036854775808 : Int) then b == (-1 : Int) else false)
    · have : ((b != (0 : Int)) && (b != (0 : Int))) = true := by simp [hb]
      simp only [cond_false, cond_true, this]
      cases (bif Int.tmod a b != (0 : Int) then !decide (Int.tmod a b < (0 : Int)) == decide (b < (0 : Int)) else false) <;> rfl
    · simp only [cond_true]
def nf_g : List AV → Option (Tr AV)
  | [.one (.v _ (.int .i64 a)), .one (.v _ (.int .i64 b))] => some (.br (true) (.ret (.tup [(false, [.v false (.int .i64 (flo a b))]), (false, [.v false (.int .i64 (floe a b))])])) (.bad 900))
  | _ => none
theorem nf_ok : FunOK Try.prog 31 nf_g := by
  refine fun_ok (by kernel_rfl) (crA_S4_ok) (L0_ok _) 8 (On := (opens [])) (fun args t h => ?_)
  unfold nf_g at h
  split at h
  · rename_i _ a _ b
    simp only [Option.some.injEq] at h
    subst h
    refine ⟨[.one (.v false (.int .i64 a)), .one (.v false (.int .i64 b))], rfl, fun fr w us h => h, fun r hr => ?_⟩
    obtain ⟨hc, hr⟩ := br_bad hr
    simp only [Tr.val, Option.some.injEq] at hr
    subst hr
    rw [nf_tree]
    exact nf_val a b hc
  · cases h
def crA_S5 : Sums := addS 31 nf_g crA_S4
theorem crA_S5_ok : SumOK Try.prog crA_S5 := addS_ok (nf_ok) (crA_S4_ok)
set_option maxRecDepth 100000 in
theorem rf_tree (a : Int) (b : Int) : evalF Try.prog crA_S5 (opens []) L0 8 34 [.one (.v false (.int .i64 a)), .one (.v false (.int .i64 b))] = .br ((bif b == (0 : Int) then true else (bif bif a == (-9223372036854775808 : Int) then b == (-1 : Int) else false then true else ((b != (0 : Int)) && (b != (0 : Int)))))) (.ret (.tup [(false, [.v false (.int .i64 (bif b == (0 : Int) then (0 : Int) else   bif bif a == (-9223372036854775808 : Int) then b == (-1 : Int) else false then (0 : Int)   else     bif         bif Int.tmod a b != (0 : Int) then           match false with           | true => decide (a < (0 : Int)) == decide (b < (0 : Int))           | false => !decide (a < (0 : Int)) == decide (b < (0 : Int))         else false then       IntKind.wrap IntKind.i64 (IntKind.wrap IntKind.i64 (Int.tdiv a b) - (1 : Int))     else IntKind.wrap IntKind.i64 (Int.tdiv a b)))]), (false, [.v false (.int .i64 (bif b == (0 : Int) then (4 : Int) else   bif bif a == (-9223372036854775808 : Int) then b == (-1 : Int) else false then (3 : Int)   else     bif         bif Int.tmod a b != (0 : Int) then           match false with           | true => decide (a < (0 : Int)) == decide (b < (0 : Int))           | false => !decide (a < (0 : Int)) == decide (b < (0 : Int))         else false then       (0 : Int)     else (0 : Int)))])])) (.bad 116) := by kernel_rfl
theorem rf_val (a : Int) (b : Int) (hc : (true) = true) : (.br ((bif b == (0 : Int) then true else (bif bif a == (-9223372036854775808 : Int) then b == (-1 : Int) else false then true else ((b != (0 : Int)) && (b != (0 : Int)))))) (.ret (.tup [(false, [.v false (.int .i64 (bif b == (0 : Int) then (0 : Int) else   bif bif a == (-9223372036854775808 : Int) then b == (-1 : Int) else false then (0 : Int)   else     bif         bif Int.tmod a b != (0 : Int) then           match false with           | true => decide (a < (0 : Int)) == decide (b < (0 : Int))           | false => !decide (a < (0 : Int)) == decide (b < (0 : Int))         else false then       IntKind.wrap IntKind.i64 (IntKind.wrap IntKind.i64 (Int.tdiv a b) - (1 : Int))     else IntKind.wrap IntKind.i64 (Int.tdiv a b)))]), (false, [.v false (.int .i64 (bif b == (0 : Int) then (4 : Int) else   bif bif a == (-9223372036854775808 : Int) then b == (-1 : Int) else false then (3 : Int)   else     bif         bif Int.tmod a b != (0 : Int) then           match false with           | true => decide (a < (0 : Int)) == decide (b < (0 : Int))           | false => !decide (a < (0 : Int)) == decide (b < (0 : Int))         else false then       (0 : Int)     else (0 : Int)))])])) (.bad 116) : Tr AV).val = some (.tup [(false, [.v false (.int .i64 (flo a b))]), (false, [.v false (.int .i64 (floe a b))])]) := by
  by_cases hb : b = 0
  · subst hb; rfl
  · have e : (b == 0) = false := beq_false_of_ne hb
    simp only [flo, floe, e, cond_false, Tr.val]
    cases hc : (bif a == (-9223372036854775808 : Int) then b == (-1 : Int) else false)
    · have : ((b != (0 : Int)) && (b != (0 : Int))) = true := by simp [hb]
      simp only [cond_false, cond_true, this]
      by_cases hm : Int.tmod a b = 0
      · simp [hm]
      · rw [tmod_sign hm]
        cases (bif Int.tmod a b != (0 : Int) then !decide (a < (0 : Int)) == decide (b < (0 : Int)) else false) <;> rfl
    · simp only [cond_true]
def rf_g : List AV → Option (Tr AV)
  | [.one (.v _ (.int .i64 a)), .one (.v _ (.int .i64 b))] => some (.br (true) (.ret (.tup [(false, [.v false (.int .i64 (flo a b))]), (false, [.v false (.int .i64 (floe a b))])])) (.bad 900))
  | _ => none
theorem rf_ok : FunOK Try.prog 34 rf_g := by
  refine fun_ok (by kernel_rfl) (crA_S5_ok) (L0_ok _) 8 (On := (opens [])) (fun args t h => ?_)
  unfold rf_g at h
  split at h
  · rename_i _ a _ b
    simp only [Option.some.injEq] at h
    subst h
    refine ⟨[.one (.v false (.int .i64 a)), .one (.v false (.int .i64 b))], rfl, fun fr w us h => h, fun r hr => ?_⟩
    obtain ⟨hc, hr⟩ := br_bad hr
    simp only [Tr.val, Option.some.injEq] at hr
    subst hr
    rw [rf_tree]
    exact rf_val a b hc
  · cases h
def crA_S6 : Sums := addS 34 rf_g crA_S5
theorem crA_S6_ok : SumOK Try.prog crA_S6 := addS_ok (rf_ok) (crA_S5_ok)
set_option maxRecDepth 100000 in
theorem cv_tree (tg : Int) (kp : Int) (ki : Int) (sc : Int) (su : Int) (li : Int) : evalF Try.prog crA_S6 (opens []) L0 8 15 [.ag [.v false (.int .i64 tg), .v false (.int .i64 kp), .v false (.int .i64 ki), .v false (.int .i64 sc), .v false (.int .i64 su), .v false (.int .i64 li)]] = .br ((((true) && ((true) && ((true) && ((true) && ((true) && (true)))))))) (.ret (.one (.v false (.bool (match true with | true => tg == cl tg (0 : Int) (400000 : Int) && (kp == cl kp (0 : Int) (1048576 : Int) && (ki == cl ki (0 : Int) (1048576 : Int) && (sc == cl sc (1 : Int) (1073741824 : Int) && (su == cl su (0 : Int) (cl li (0 : Int) (1099511627776 : Int)) && (li == cl li (0 : Int) (1099511627776 : Int) && true))))) | false => !(tg == cl tg (0 : Int) (400000 : Int) && (kp == cl kp (0 : Int) (1048576 : Int) && (ki == cl ki (0 : Int) (1048576 : Int) && (sc == cl sc (1 : Int) (1073741824 : Int) && (su == cl su (0 : Int) (cl li (0 : Int) (1099511627776 : Int)) && (li == cl li (0 : Int) (1099511627776 : Int) && true))))))))))) (.bad 116) := by kernel_rfl
theorem cv_val (tg : Int) (kp : Int) (ki : Int) (sc : Int) (su : Int) (li : Int) (hc : (true) = true) : (.br ((((true) && ((true) && ((true) && ((true) && ((true) && (true)))))))) (.ret (.one (.v false (.bool (match true with | true => tg == cl tg (0 : Int) (400000 : Int) && (kp == cl kp (0 : Int) (1048576 : Int) && (ki == cl ki (0 : Int) (1048576 : Int) && (sc == cl sc (1 : Int) (1073741824 : Int) && (su == cl su (0 : Int) (cl li (0 : Int) (1099511627776 : Int)) && (li == cl li (0 : Int) (1099511627776 : Int) && true))))) | false => !(tg == cl tg (0 : Int) (400000 : Int) && (kp == cl kp (0 : Int) (1048576 : Int) && (ki == cl ki (0 : Int) (1048576 : Int) && (sc == cl sc (1 : Int) (1073741824 : Int) && (su == cl su (0 : Int) (cl li (0 : Int) (1099511627776 : Int)) && (li == cl li (0 : Int) (1099511627776 : Int) && true))))))))))) (.bad 116) : Tr AV).val = some (.one (.v false (.bool (cval tg kp ki sc su li)))) := by
  refine congrArg (fun b => some (AV.one (.v false (.bool b)))) ?_
  unfold cval
  rw [Bool.eq_iff_iff]
  have h1 := cl_eq li 0 1099511627776 (by decide)
  have h2 := cl_eq tg 0 400000 (by decide)
  have h3 := cl_eq kp 0 1048576 (by decide)
  have h4 := cl_eq ki 0 1048576 (by decide)
  have h5 := cl_eq sc 1 1073741824 (by decide)
  have h6 := cl_eq su 0 (cl li 0 1099511627776) h1.1
  constructor <;> intro h <;> simp at h ⊢ <;> omega
def cv_g : List AV → Option (Tr AV)
  | [.ag [.v _ (.int .i64 tg), .v _ (.int .i64 kp), .v _ (.int .i64 ki), .v _ (.int .i64 sc), .v _ (.int .i64 su), .v _ (.int .i64 li)]] => some (.br (true) (.ret (.one (.v false (.bool (cval tg kp ki sc su li))))) (.bad 900))
  | _ => none
theorem cv_ok : FunOK Try.prog 15 cv_g := by
  refine fun_ok (by kernel_rfl) (crA_S6_ok) (L0_ok _) 8 (On := (opens [])) (fun args t h => ?_)
  unfold cv_g at h
  split at h
  · rename_i _ tg _ kp _ ki _ sc _ su _ li
    simp only [Option.some.injEq] at h
    subst h
    refine ⟨[.ag [.v false (.int .i64 tg), .v false (.int .i64 kp), .v false (.int .i64 ki), .v false (.int .i64 sc), .v false (.int .i64 su), .v false (.int .i64 li)]], rfl, fun fr w us h => h, fun r hr => ?_⟩
    obtain ⟨hc, hr⟩ := br_bad hr
    simp only [Tr.val, Option.some.injEq] at hr
    subst hr
    rw [cv_tree]
    exact cv_val tg kp ki sc su li hc
  · cases h
def crA_S7 : Sums := addS 15 cv_g crA_S6
theorem crA_S7_ok : SumOK Try.prog crA_S7 := addS_ok (cv_ok) (crA_S6_ok)
set_option maxRecDepth 100000 in
theorem rv_tree (tg : Int) (kp : Int) (ki : Int) (sc : Int) (su : Int) (li : Int) : evalF Try.prog crA_S7 (opens []) L0 8 32 [.ag [.v false (.int .i64 tg), .v false (.int .i64 kp), .v false (.int .i64 ki), .v false (.int .i64 sc), .v false (.int .i64 su), .v false (.int .i64 li)]] = .ret (.one (.v false (.bool (bif bif bif bif bif bif bif bif bif bif bif decide (tg ≥ (0 : Int)) then decide (tg ≤ (400000 : Int)) else false then decide (kp ≥ (0 : Int)) else false then decide (kp ≤ (1048576 : Int)) else false then decide (ki ≥ (0 : Int)) else false then decide (ki ≤ (1048576 : Int)) else false then decide (sc ≥ (1 : Int)) else false then decide (sc ≤ (1073741824 : Int)) else false then decide (li ≥ (0 : Int)) else false then decide (li ≤ (1099511627776 : Int)) else false then decide (su ≥ (0 : Int)) else false then decide (su ≤ li) else false)))) := by kernel_rfl
theorem rv_val (tg : Int) (kp : Int) (ki : Int) (sc : Int) (su : Int) (li : Int) (hc : (true) = true) : (.ret (.one (.v false (.bool (bif bif bif bif bif bif bif bif bif bif bif decide (tg ≥ (0 : Int)) then decide (tg ≤ (400000 : Int)) else false then decide (kp ≥ (0 : Int)) else false then decide (kp ≤ (1048576 : Int)) else false then decide (ki ≥ (0 : Int)) else false then decide (ki ≤ (1048576 : Int)) else false then decide (sc ≥ (1 : Int)) else false then decide (sc ≤ (1073741824 : Int)) else false then decide (li ≥ (0 : Int)) else false then decide (li ≤ (1099511627776 : Int)) else false then decide (su ≥ (0 : Int)) else false then decide (su ≤ li) else false)))) : Tr AV).val = some (.one (.v false (.bool (cval tg kp ki sc su li)))) := by
  refine congrArg (fun b => some (AV.one (.v false (.bool b)))) ?_
  unfold cval
  rw [Bool.eq_iff_iff]
  simp only [Bool.cond_eq_ite]
  constructor <;> intro h <;> simp at h ⊢ <;> omega
def rv_g : List AV → Option (Tr AV)
  | [.ag [.v _ (.int .i64 tg), .v _ (.int .i64 kp), .v _ (.int .i64 ki), .v _ (.int .i64 sc), .v _ (.int .i64 su), .v _ (.int .i64 li)]] => some (.br (true) (.ret (.one (.v false (.bool (cval tg kp ki sc su li))))) (.bad 900))
  | _ => none
theorem rv_ok : FunOK Try.prog 32 rv_g := by
  refine fun_ok (by kernel_rfl) (crA_S7_ok) (L0_ok _) 8 (On := (opens [])) (fun args t h => ?_)
  unfold rv_g at h
  split at h
  · rename_i _ tg _ kp _ ki _ sc _ su _ li
    simp only [Option.some.injEq] at h
    subst h
    refine ⟨[.ag [.v false (.int .i64 tg), .v false (.int .i64 kp), .v false (.int .i64 ki), .v false (.int .i64 sc), .v false (.int .i64 su), .v false (.int .i64 li)]], rfl, fun fr w us h => h, fun r hr => ?_⟩
    obtain ⟨hc, hr⟩ := br_bad hr
    simp only [Tr.val, Option.some.injEq] at hr
    subst hr
    rw [rv_tree]
    exact rv_val tg kp ki sc su li hc
  · cases h
def crA_S8 : Sums := addS 32 rv_g crA_S7
theorem crA_S8_ok : SumOK Try.prog crA_S8 := addS_ok (rv_ok) (crA_S7_ok)
set_option maxRecDepth 100000 in
theorem st_tree (tg : Int) (kp : Int) (ki : Int) (sc : Int) (su : Int) (li : Int) (r : Int) : evalF Try.prog crA_S8 (opens []) L0 7 11 [.ag [.v false (.int .i64 tg), .v false (.int .i64 kp), .v false (.int .i64 ki), .v false (.int .i64 sc), .v false (.int .i64 su), .v false (.int .i64 li)], .one (.v false (.int .i64 r))] = .br (((true) && (bif bif bif !cval tg kp ki sc su li then true else decide (r < (-1073741824 : Int)) then true else decide (r > (1073741824 : Int)) then true else (bif tg == (0 : Int) then true else ((true) && ((true) && (true))))))) (.ret (.tup [(true, [.v false (.int .i64 (bif bif bif !cval tg kp ki sc su li then true else decide (r < (-1073741824 : Int)) then true else decide (r > (1073741824 : Int)) then tg else bif tg == (0 : Int) then tg else tg)), .v false (.int .i64 (bif bif bif !cval tg kp ki sc su li then true else decide (r < (-1073741824 : Int)) then true else decide (r > (1073741824 : Int)) then kp else bif tg == (0 : Int) then kp else kp)), .v false (.int .i64 (bif bif bif !cval tg kp ki sc su li then true else decide (r < (-1073741824 : Int)) then true else decide (r > (1073741824 : Int)) then ki else bif tg == (0 : Int) then ki else ki)), .v false (.int .i64 (bif bif bif !cval tg kp ki sc su li then true else decide (r < (-1073741824 : Int)) then true else decide (r > (1073741824 : Int)) then sc else bif tg == (0 : Int) then sc else sc)), .v false (.int .i64 (bif bif bif !cval tg kp ki sc su li then true else decide (r < (-1073741824 : Int)) then true else decide (r > (1073741824 : Int)) then su else bif tg == (0 : Int) then (0 : Int) else cl (IntKind.wrap IntKind.i64 (su + IntKind.wrap IntKind.i64 (ki * IntKind.wrap IntKind.i64 (tg - r)))) (0 : Int) li)), .v false (.int .i64 (bif bif bif !cval tg kp ki sc su li then true else decide (r < (-1073741824 : Int)) then true else decide (r > (1073741824 : Int)) then li else bif tg == (0 : Int) then li else li))]), (false, [.v false (.int .i64 (bif bif bif !cval tg kp ki sc su li then true else decide (r < (-1073741824 : Int)) then true else decide (r > (1073741824 : Int)) then (0 : Int) else bif tg == (0 : Int) then (0 : Int) else cl (flo (IntKind.wrap IntKind.i64 (IntKind.wrap IntKind.i64 (kp * IntKind.wrap IntKind.i64 (tg - r)) + cl (IntKind.wrap IntKind.i64 (su + IntKind.wrap IntKind.i64 (ki * IntKind.wrap IntKind.i64 (tg - r)))) (0 : Int) li)) sc) (0 : Int) (255 : Int)))])])) (.bad 116) := by kernel_rfl
def st0 (tg : Int) (kp : Int) (ki : Int) (sc : Int) (su : Int) (li : Int) (r : Int) : Int := bif bif bif !cval tg kp ki sc su li then true else decide (r < (-1073741824 : Int)) then true else decide (r > (1073741824 : Int)) then su else bif tg == (0 : Int) then (0 : Int) else cl (IntKind.wrap IntKind.i64 (su + IntKind.wrap IntKind.i64 (ki * IntKind.wrap IntKind.i64 (tg - r)))) (0 : Int) li
def st1 (tg : Int) (kp : Int) (ki : Int) (sc : Int) (su : Int) (li : Int) (r : Int) : Int := bif bif bif !cval tg kp ki sc su li then true else decide (r < (-1073741824 : Int)) then true else decide (r > (1073741824 : Int)) then (0 : Int) else bif tg == (0 : Int) then (0 : Int) else cl (flo (IntKind.wrap IntKind.i64 (IntKind.wrap IntKind.i64 (kp * IntKind.wrap IntKind.i64 (tg - r)) + cl (IntKind.wrap IntKind.i64 (su + IntKind.wrap IntKind.i64 (ki * IntKind.wrap IntKind.i64 (tg - r)))) (0 : Int) li)) sc) (0 : Int) (255 : Int)
set_option maxHeartbeats 4000000 in
theorem st_val (tg : Int) (kp : Int) (ki : Int) (sc : Int) (su : Int) (li : Int) (r : Int) : (.br (((true) && (bif bif bif !cval tg kp ki sc su li then true else decide (r < (-1073741824 : Int)) then true else decide (r > (1073741824 : Int)) then true else (bif tg == (0 : Int) then true else ((true) && ((true) && (true))))))) (.ret (.tup [(true, [.v false (.int .i64 (bif bif bif !cval tg kp ki sc su li then true else decide (r < (-1073741824 : Int)) then true else decide (r > (1073741824 : Int)) then tg else bif tg == (0 : Int) then tg else tg)), .v false (.int .i64 (bif bif bif !cval tg kp ki sc su li then true else decide (r < (-1073741824 : Int)) then true else decide (r > (1073741824 : Int)) then kp else bif tg == (0 : Int) then kp else kp)), .v false (.int .i64 (bif bif bif !cval tg kp ki sc su li then true else decide (r < (-1073741824 : Int)) then true else decide (r > (1073741824 : Int)) then ki else bif tg == (0 : Int) then ki else ki)), .v false (.int .i64 (bif bif bif !cval tg kp ki sc su li then true else decide (r < (-1073741824 : Int)) then true else decide (r > (1073741824 : Int)) then sc else bif tg == (0 : Int) then sc else sc)), .v false (.int .i64 (bif bif bif !cval tg kp ki sc su li then true else decide (r < (-1073741824 : Int)) then true else decide (r > (1073741824 : Int)) then su else bif tg == (0 : Int) then (0 : Int) else cl (IntKind.wrap IntKind.i64 (su + IntKind.wrap IntKind.i64 (ki * IntKind.wrap IntKind.i64 (tg - r)))) (0 : Int) li)), .v false (.int .i64 (bif bif bif !cval tg kp ki sc su li then true else decide (r < (-1073741824 : Int)) then true else decide (r > (1073741824 : Int)) then li else bif tg == (0 : Int) then li else li))]), (false, [.v false (.int .i64 (bif bif bif !cval tg kp ki sc su li then true else decide (r < (-1073741824 : Int)) then true else decide (r > (1073741824 : Int)) then (0 : Int) else bif tg == (0 : Int) then (0 : Int) else cl (flo (IntKind.wrap IntKind.i64 (IntKind.wrap IntKind.i64 (kp * IntKind.wrap IntKind.i64 (tg - r)) + cl (IntKind.wrap IntKind.i64 (su + IntKind.wrap IntKind.i64 (ki * IntKind.wrap IntKind.i64 (tg - r)))) (0 : Int) li)) sc) (0 : Int) (255 : Int)))])])) (.bad 116) : Tr AV).val = some (.tup [(true, [.v false (.int .i64 (tg)), .v false (.int .i64 (kp)), .v false (.int .i64 (ki)), .v false (.int .i64 (sc)), .v false (.int .i64 (st0 tg kp ki sc su li r)), .v false (.int .i64 (li))]), (false, [.v false (.int .i64 (st1 tg kp ki sc su li r))])]) := by
  have hc : (((true) && (bif bif bif !cval tg kp ki sc su li then true else decide (r < (-1073741824 : Int)) then true else decide (r > (1073741824 : Int)) then true else (bif tg == (0 : Int) then true else ((true) && ((true) && (true))))))) = true := by simp
  show cond _ _ _ = _
  rw [hc]
  show some _ = some _
  first | rfl | simp only [cond_same, ite_self, st0, st1]
def st_g : List AV → Option (Tr AV)
  | [.ag [.v _ (.int .i64 tg), .v _ (.int .i64 kp), .v _ (.int .i64 ki), .v _ (.int .i64 sc), .v _ (.int .i64 su), .v _ (.int .i64 li)], .one (.v _ (.int .i64 r))] => some (.ret (.tup [(true, [.v false (.int .i64 (tg)), .v false (.int .i64 (kp)), .v false (.int .i64 (ki)), .v false (.int .i64 (sc)), .v false (.int .i64 (st0 tg kp ki sc su li r)), .v false (.int .i64 (li))]), (false, [.v false (.int .i64 (st1 tg kp ki sc su li r))])]))
  | _ => none
theorem st_ok : FunOK Try.prog 11 st_g := by
  refine fun_ok (by kernel_rfl) (crA_S8_ok) (L0_ok _) 7 (On := (opens [])) (fun args t h => ?_)
  unfold st_g at h
  split at h
  · rename_i _ tg _ kp _ ki _ sc _ su _ li _ r
    simp only [Option.some.injEq] at h
    subst h
    refine ⟨[.ag [.v false (.int .i64 tg), .v false (.int .i64 kp), .v false (.int .i64 ki), .v false (.int .i64 sc), .v false (.int .i64 su), .v false (.int .i64 li)], .one (.v false (.int .i64 r))], rfl, fun fr w us h => h, fun r hr => ?_⟩
    simp only [Tr.val, Option.some.injEq] at hr
    subst hr
    rw [st_tree]
    exact st_val tg kp ki sc su li r
  · cases h
def crA_S9 : Sums := addS 11 st_g crA_S8
theorem crA_S9_ok : SumOK Try.prog crA_S9 := addS_ok (st_ok) (crA_S8_ok)
set_option maxRecDepth 100000 in
theorem rst_tree (tg : Int) (kp : Int) (ki : Int) (sc : Int) (su : Int) (li : Int) (r : Int) : evalF Try.prog crA_S9 (opens []) L0 8 12 [.ag [.v false (.int .i64 tg), .v false (.int .i64 kp), .v false (.int .i64 ki), .v false (.int .i64 sc), .v false (.int .i64 su), .v false (.int .i64 li)], .one (.v false (.int .i64 r))] = .br (((true) && (bif bif bif !cval tg kp ki sc su li then true else decide (r < (-1073741824 : Int)) then true else decide (r > (1073741824 : Int)) then true else (bif tg == (0 : Int) then true else ((true) && ((true) && (true))))))) (.ret (.tup [(true, [.v false (.int .i64 (bif bif bif !cval tg kp ki sc su li then true else decide (r < (-1073741824 : Int)) then true else decide (r > (1073741824 : Int)) then tg else bif tg == (0 : Int) then tg else tg)), .v false (.int .i64 (bif bif bif !cval tg kp ki sc su li then true else decide (r < (-1073741824 : Int)) then true else decide (r > (1073741824 : Int)) then kp else bif tg == (0 : Int) then kp else kp)), .v false (.int .i64 (bif bif bif !cval tg kp ki sc su li then true else decide (r < (-1073741824 : Int)) then true else decide (r > (1073741824 : Int)) then ki else bif tg == (0 : Int) then ki else ki)), .v false (.int .i64 (bif bif bif !cval tg kp ki sc su li then true else decide (r < (-1073741824 : Int)) then true else decide (r > (1073741824 : Int)) then sc else bif tg == (0 : Int) then sc else sc)), .v false (.int .i64 (bif bif bif !cval tg kp ki sc su li then true else decide (r < (-1073741824 : Int)) then true else decide (r > (1073741824 : Int)) then su else bif tg == (0 : Int) then (0 : Int) else cl (IntKind.wrap IntKind.i64 (su + IntKind.wrap IntKind.i64 (ki * IntKind.wrap IntKind.i64 (tg - r)))) (0 : Int) li)), .v false (.int .i64 (bif bif bif !cval tg kp ki sc su li then true else decide (r < (-1073741824 : Int)) then true else decide (r > (1073741824 : Int)) then li else bif tg == (0 : Int) then li else li))]), (false, [.v false (.int .i64 (bif bif bif !cval tg kp ki sc su li then true else decide (r < (-1073741824 : Int)) then true else decide (r > (1073741824 : Int)) then (0 : Int) else bif tg == (0 : Int) then (0 : Int) else cl (flo (IntKind.wrap IntKind.i64 (IntKind.wrap IntKind.i64 (kp * IntKind.wrap IntKind.i64 (tg - r)) + cl (IntKind.wrap IntKind.i64 (su + IntKind.wrap IntKind.i64 (ki * IntKind.wrap IntKind.i64 (tg - r)))) (0 : Int) li)) sc) (0 : Int) (255 : Int)))])])) (.bad 116) := by kernel_rfl
theorem rst_val (tg : Int) (kp : Int) (ki : Int) (sc : Int) (su : Int) (li : Int) (r : Int) (hc : (true) = true) : (.br (((true) && (bif bif bif !cval tg kp ki sc su li then true else decide (r < (-1073741824 : Int)) then true else decide (r > (1073741824 : Int)) then true else (bif tg == (0 : Int) then true else ((true) && ((true) && (true))))))) (.ret (.tup [(true, [.v false (.int .i64 (bif bif bif !cval tg kp ki sc su li then true else decide (r < (-1073741824 : Int)) then true else decide (r > (1073741824 : Int)) then tg else bif tg == (0 : Int) then tg else tg)), .v false (.int .i64 (bif bif bif !cval tg kp ki sc su li then true else decide (r < (-1073741824 : Int)) then true else decide (r > (1073741824 : Int)) then kp else bif tg == (0 : Int) then kp else kp)), .v false (.int .i64 (bif bif bif !cval tg kp ki sc su li then true else decide (r < (-1073741824 : Int)) then true else decide (r > (1073741824 : Int)) then ki else bif tg == (0 : Int) then ki else ki)), .v false (.int .i64 (bif bif bif !cval tg kp ki sc su li then true else decide (r < (-1073741824 : Int)) then true else decide (r > (1073741824 : Int)) then sc else bif tg == (0 : Int) then sc else sc)), .v false (.int .i64 (bif bif bif !cval tg kp ki sc su li then true else decide (r < (-1073741824 : Int)) then true else decide (r > (1073741824 : Int)) then su else bif tg == (0 : Int) then (0 : Int) else cl (IntKind.wrap IntKind.i64 (su + IntKind.wrap IntKind.i64 (ki * IntKind.wrap IntKind.i64 (tg - r)))) (0 : Int) li)), .v false (.int .i64 (bif bif bif !cval tg kp ki sc su li then true else decide (r < (-1073741824 : Int)) then true else decide (r > (1073741824 : Int)) then li else bif tg == (0 : Int) then li else li))]), (false, [.v false (.int .i64 (bif bif bif !cval tg kp ki sc su li then true else decide (r < (-1073741824 : Int)) then true else decide (r > (1073741824 : Int)) then (0 : Int) else bif tg == (0 : Int) then (0 : Int) else cl (flo (IntKind.wrap IntKind.i64 (IntKind.wrap IntKind.i64 (kp * IntKind.wrap IntKind.i64 (tg - r)) + cl (IntKind.wrap IntKind.i64 (su + IntKind.wrap IntKind.i64 (ki * IntKind.wrap IntKind.i64 (tg - r)))) (0 : Int) li)) sc) (0 : Int) (255 : Int)))])])) (.bad 116) : Tr AV).val = some (.tup [(true, [.v false (.int .i64 (tg)), .v false (.int .i64 (kp)), .v false (.int .i64 (ki)), .v false (.int .i64 (sc)), .v false (.int .i64 (st0 tg kp ki sc su li r)), .v false (.int .i64 (li))]), (false, [.v false (.int .i64 (st1 tg kp ki sc su li r))])]) := by
  have hc : (((true) && (bif bif bif !cval tg kp ki sc su li then true else decide (r < (-1073741824 : Int)) then true else decide (r > (1073741824 : Int)) then true else (bif tg == (0 : Int) then true else ((true) && ((true) && (true))))))) = true := by simp
  show cond _ _ _ = _
  rw [hc]
  show some _ = some _
  first | rfl | simp only [cond_same, ite_self, st0, st1]
def rst_g : List AV → Option (Tr AV)
  | [.ag [.v _ (.int .i64 tg), .v _ (.int .i64 kp), .v _ (.int .i64 ki), .v _ (.int .i64 sc), .v _ (.int .i64 su), .v _ (.int .i64 li)], .one (.v _ (.int .i64 r))] => some (.br (true) (.ret (.tup [(true, [.v false (.int .i64 (tg)), .v false (.int .i64 (kp)), .v false (.int .i64 (ki)), .v false (.int .i64 (sc)), .v false (.int .i64 (st0 tg kp ki sc su li r)), .v false (.int .i64 (li))]), (false, [.v false (.int .i64 (st1 tg kp ki sc su li r))])])) (.bad 900))
  | _ => none
theorem rst_ok : FunOK Try.prog 12 rst_g := by
  refine fun_ok (by kernel_rfl) (crA_S9_ok) (L0_ok _) 8 (On := (opens [])) (fun args t h => ?_)
  unfold rst_g at h
  split at h
  · rename_i _ tg _ kp _ ki _ sc _ su _ li _ r
    simp only [Option.some.injEq] at h
    subst h
    refine ⟨[.ag [.v false (.int .i64 tg), .v false (.int .i64 kp), .v false (.int .i64 ki), .v false (.int .i64 sc), .v false (.int .i64 su), .v false (.int .i64 li)], .one (.v false (.int .i64 r))], rfl, fun fr w us h => h, fun r hr => ?_⟩
    obtain ⟨hc, hr⟩ := br_bad hr
    simp only [Tr.val, Option.some.injEq] at hr
    subst hr
    rw [rst_tree]
    exact rst_val tg kp ki sc su li r hc
  · cases h
def crA_S10 : Sums := addS 12 rst_g crA_S9
theorem crA_S10_ok : SumOK Try.prog crA_S10 := addS_ok (rst_ok) (crA_S9_ok)
set_option maxRecDepth 100000 in
theorem aim_tree (tg : Int) (kp : Int) (ki : Int) (sc : Int) (su : Int) (li : Int) (r : Int) : evalF Try.prog crA_S10 (opens []) L0 7 14 [.ag [.v false (.int .i64 tg), .v false (.int .i64 kp), .v false (.int .i64 ki), .v false (.int .i64 sc), .v false (.int .i64 su), .v false (.int .i64 li)], .one (.v false (.int .i64 r))] = .br ((true)) (.ret (.tup [(true, [.v false (.int .i64 (bif bif bif !cval tg kp ki sc su li then true else decide (r < (0 : Int)) then true else decide (r > (400000 : Int)) then (0 : Int) else r)), .v false (.int .i64 (bif bif bif !cval tg kp ki sc su li then true else decide (r < (0 : Int)) then true else decide (r > (400000 : Int)) then (0 : Int) else kp)), .v false (.int .i64 (bif bif bif !cval tg kp ki sc su li then true else decide (r < (0 : Int)) then true else decide (r > (400000 : Int)) then (0 : Int) else ki)), .v false (.int .i64 (bif bif bif !cval tg kp ki sc su li then true else decide (r < (0 : Int)) then true else decide (r > (400000 : Int)) then (0 : Int) else sc)), .v false (.int .i64 (bif bif bif !cval tg kp ki sc su li then true else decide (r < (0 : Int)) then true else decide (r > (400000 : Int)) then (0 : Int) else (0 : Int))), .v false (.int .i64 (bif bif bif !cval tg kp ki sc su li then true else decide (r < (0 : Int)) then true else decide (r > (400000 : Int)) then (0 : Int) else li))]), (false, [.v false (.int .i64 (bif bif bif !cval tg kp ki sc su li then true else decide (r < (0 : Int)) then true else decide (r > (400000 : Int)) then (1 : Int) else (0 : Int)))])])) (.bad 116) := by kernel_rfl
def aim0 (tg : Int) (kp : Int) (ki : Int) (sc : Int) (su : Int) (li : Int) (r : Int) : Int := bif bif bif !cval tg kp ki sc su li then true else decide (r < (0 : Int)) then true else decide (r > (400000 : Int)) then (0 : Int) else r
def aim1 (tg : Int) (kp : Int) (ki : Int) (sc : Int) (su : Int) (li : Int) (r : Int) : Int := bif bif bif !cval tg kp ki sc su li then true else decide (r < (0 : Int)) then true else decide (r > (400000 : Int)) then (0 : Int) else kp
def aim2 (tg : Int) (kp : Int) (ki : Int) (sc : Int) (su : Int) (li : Int) (r : Int) : Int := bif bif bif !cval tg kp ki sc su li then true else decide (r < (0 : Int)) then true else decide (r > (400000 : Int)) then (0 : Int) else ki
def aim3 (tg : Int) (kp : Int) (ki : Int) (sc : Int) (su : Int) (li : Int) (r : Int) : Int := bif bif bif !cval tg kp ki sc su li then true else decide (r < (0 : Int)) then true else decide (r > (400000 : Int)) then (0 : Int) else sc
def aim4 (tg : Int) (kp : Int) (ki : Int) (sc : Int) (su : Int) (li : Int) (r : Int) : Int := bif bif bif !cval tg kp ki sc su li then true else decide (r < (0 : Int)) then true else decide (r > (400000 : Int)) then (0 : Int) else li
def aim5 (tg : Int) (kp : Int) (ki : Int) (sc : Int) (su : Int) (li : Int) (r : Int) : Int := bif bif bif !cval tg kp ki sc su li then true else decide (r < (0 : Int)) then true else decide (r > (400000 : Int)) then (1 : Int) else (0 : Int)
set_option maxHeartbeats 4000000 in
theorem aim_val (tg : Int) (kp : Int) (ki : Int) (sc : Int) (su : Int) (li : Int) (r : Int) : (.br ((true)) (.ret (.tup [(true, [.v false (.int .i64 (bif bif bif !cval tg kp ki sc su li then true else decide (r < (0 : Int)) then true else decide (r > (400000 : Int)) then (0 : Int) else r)), .v false (.int .i64 (bif bif bif !cval tg kp ki sc su li then true else decide (r < (0 : Int)) then true else decide (r > (400000 : Int)) then (0 : Int) else kp)), .v false (.int .i64 (bif bif bif !cval tg kp ki sc su li then true else decide (r < (0 : Int)) then true else decide (r > (400000 : Int)) then (0 : Int) else ki)), .v false (.int .i64 (bif bif bif !cval tg kp ki sc su li then true else decide (r < (0 : Int)) then true else decide (r > (400000 : Int)) then (0 : Int) else sc)), .v false (.int .i64 (bif bif bif !cval tg kp ki sc su li then true else decide (r < (0 : Int)) then true else decide (r > (400000 : Int)) then (0 : Int) else (0 : Int))), .v false (.int .i64 (bif bif bif !cval tg kp ki sc su li then true else decide (r < (0 : Int)) then true else decide (r > (400000 : Int)) then (0 : Int) else li))]), (false, [.v false (.int .i64 (bif bif bif !cval tg kp ki sc su li then true else decide (r < (0 : Int)) then true else decide (r > (400000 : Int)) then (1 : Int) else (0 : Int)))])])) (.bad 116) : Tr AV).val = some (.tup [(true, [.v false (.int .i64 (aim0 tg kp ki sc su li r)), .v false (.int .i64 (aim1 tg kp ki sc su li r)), .v false (.int .i64 (aim2 tg kp ki sc su li r)), .v false (.int .i64 (aim3 tg kp ki sc su li r)), .v false (.int .i64 ((0 : Int))), .v false (.int .i64 (aim4 tg kp ki sc su li r))]), (false, [.v false (.int .i64 (aim5 tg kp ki sc su li r))])]) := by
  have hc : ((true)) = true := by simp
  show cond _ _ _ = _
  rw [hc]
  show some _ = some _
  first | rfl | simp only [cond_same, ite_self, aim0, aim1, aim2, aim3, aim4, aim5]
def aim_g : List AV → Option (Tr AV)
  | [.ag [.v _ (.int .i64 tg), .v _ (.int .i64 kp), .v _ (.int .i64 ki), .v _ (.int .i64 sc), .v _ (.int .i64 su), .v _ (.int .i64 li)], .one (.v _ (.int .i64 r))] => some (.ret (.tup [(true, [.v false (.int .i64 (aim0 tg kp ki sc su li r)), .v false (.int .i64 (aim1 tg kp ki sc su li r)), .v false (.int .i64 (aim2 tg kp ki sc su li r)), .v false (.int .i64 (aim3 tg kp ki sc su li r)), .v false (.int .i64 ((0 : Int))), .v false (.int .i64 (aim4 tg kp ki sc su li r))]), (false, [.v false (.int .i64 (aim5 tg kp ki sc su li r))])]))
  | _ => none
theorem aim_ok : FunOK Try.prog 14 aim_g := by
  refine fun_ok (by kernel_rfl) (crA_S10_ok) (L0_ok _) 7 (On := (opens [])) (fun args t h => ?_)
  unfold aim_g at h
  split at h
  · rename_i _ tg _ kp _ ki _ sc _ su _ li _ r
    simp only [Option.some.injEq] at h
    subst h
    refine ⟨[.ag [.v false (.int .i64 tg), .v false (.int .i64 kp), .v false (.int .i64 ki), .v false (.int .i64 sc), .v false (.int .i64 su), .v false (.int .i64 li)], .one (.v false (.int .i64 r))], rfl, fun fr w us h => h, fun r hr => ?_⟩
    simp only [Tr.val, Option.some.injEq] at hr
    subst hr
    rw [aim_tree]
    exact aim_val tg kp ki sc su li r
  · cases h
def crA_S11 : Sums := addS 14 aim_g crA_S10
theorem crA_S11_ok : SumOK Try.prog crA_S11 := addS_ok (aim_ok) (crA_S10_ok)
end Go.Proofs.Ytbfkddnehdoliaa
