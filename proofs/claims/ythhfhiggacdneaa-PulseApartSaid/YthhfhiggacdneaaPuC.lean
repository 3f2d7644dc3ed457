/-
  Layer 46: Start, Tick, Made, Ended of both.
-/
import Derived.Test.YthhfhiggacdneaaProg
import Derived.Test.YthhfhiggacdneaaFvX
import Derived.Test.YthhfhiggacdneaaFvZ
import Derived.Test.YthhfhiggacdneaaAut
import Derived.Test.YthhfhiggacdneaaPl
import Derived.Test.YthhfhiggacdneaaSqr
import Derived.Test.YthhfhiggacdneaaPuB
namespace Go.Proofs.Ythhfhiggacdneaa
open Go
def stt (a b c d ac en cr ex t : Int) : Bool := bval a b c d ac en cr ex && (decide (1 ≤ t) && decide (t ≤ 1048576))
def trun (a b c d ac en cr ex dn wt t : Int) : Bool := (bif decide (dn ≥ (0 : Int)) then decide (wt ≥ (1 : Int)) else false) && decide (wt ≤ ivl (sq a b c d ac en cr ex (IntKind.wrap IntKind.i64 (dn + (1 : Int)))) t)
def tgo (wt : Int) : Bool := decide (IntKind.wrap IntKind.i64 (wt - (1 : Int)) > (0 : Int))
def tkD (a b c d ac en cr ex dn wt t : Int) : Int := bif trun a b c d ac en cr ex dn wt t then (bif tgo wt then dn else (IntKind.wrap IntKind.i64 (dn + (1 : Int)))) else dn
def tkW (a b c d ac en cr ex dn wt t : Int) : Int := bif trun a b c d ac en cr ex dn wt t then (bif tgo wt then IntKind.wrap IntKind.i64 (wt - (1 : Int)) else ivl (sq a b c d ac en cr ex (IntKind.wrap IntKind.i64 ((IntKind.wrap IntKind.i64 (dn + (1 : Int))) + (1 : Int)))) t) else wt
def tkP (a b c d ac en cr ex dn wt t x : Int) : Int := bif trun a b c d ac en cr ex dn wt t then (bif tgo wt then 0 else pul a b c d (IntKind.wrap IntKind.i64 (dn + (1 : Int))) x) else 0
def mdv (a b c d ac en cr ex dn x : Int) : Int := bif bif bif !bval a b c d ac en cr ex then true else decide (dn < (0 : Int)) then true else decide (dn > dom a b c d) then (0 : Int) else atv a b c d dn x
def edv (a b c d ac en cr ex dn : Int) : Bool := bif bval a b c d ac en cr ex then dn == dom a b c d else false
def rvl (a b c d ac en cr ex dn wt t : Int) : Bool := bif bif bif decide (t < (1 : Int)) then true else decide (t > (1048576 : Int)) then true else !bval a b c d ac en cr ex then false else bif dn == dom a b c d then wt == (0 : Int) else bif bif bif decide (dn ≥ (0 : Int)) then decide (dn < dom a b c d) else false then decide (wt ≥ (1 : Int)) else false then decide (wt ≤ ivl (sq a b c d ac en cr ex (IntKind.wrap IntKind.i64 (dn + (1 : Int)))) t) else false
def rstop (a b c d ac en cr ex dn wt t : Int) : Bool := bif !bif bif bif decide (t < (1 : Int)) then true else decide (t > (1048576 : Int)) then true else !bval a b c d ac en cr ex then false else bif dn == dom a b c d then wt == (0 : Int) else bif bif bif decide (dn ≥ (0 : Int)) then decide (dn < dom a b c d) else false then decide (wt ≥ (1 : Int)) else false then decide (wt ≤ ivl (sq a b c d ac en cr ex (IntKind.wrap IntKind.i64 (dn + (1 : Int)))) t) else false then true else bif bval a b c d ac en cr ex then dn == dom a b c d else false
def inW (x : Int) : Bool := decide (-9223372036854775808 ≤ x) && decide (x ≤ 9223372036854775807)
theorem ivl0 {z t : Int} (h : (decide (1 ≤ z) && (decide (1 ≤ t) && decide (t ≤ 1048576))) = true) (h2 : z ≤ 1099511627776) : 1 ≤ ivl z t := by
  simp only [Bool.and_eq_true, decide_eq_true_eq] at h
  exact (ivl_in h.1 h2 h.2.1 h.2.2).2.1
theorem iv_pos {a b c d ac en cr ex i t : Int} : 1 ≤ ivl (sq a b c d ac en cr ex i) t ↔ (stt a b c d ac en cr ex t = true ∧ 1 ≤ i ∧ i ≤ dom a b c d) := by
  have Z := sq_nonneg a b c d ac en cr ex i
  constructor
  · intro h
    cases hq : (decide (1 ≤ sq a b c d ac en cr ex i) && (decide (1 ≤ t) && decide (t ≤ 1048576)))
    · rw [ivl_out hq] at h; omega
    · simp only [Bool.and_eq_true, decide_eq_true_eq] at hq
      by_cases h2 : bval a b c d ac en cr ex = true ∧ 1 ≤ i ∧ i ≤ dom a b c d
      · exact ⟨by unfold stt; rw [h2.1, decide_eq_true hq.2.1, decide_eq_true hq.2.2]; rfl, h2.2⟩
      · rw [sq_out h2] at hq; omega
  · rintro ⟨h1, h2, h3⟩
    unfold stt at h1
    simp only [Bool.and_eq_true, decide_eq_true_eq] at h1
    have := sq_in h1.1 h2 h3
    exact (ivl_in this.2.2.2.1 Z.2.1 h1.2.1 h1.2.2).2.1
theorem ivl_nn (z t : Int) (hz : z ≤ 1099511627776) : 0 ≤ ivl z t := by
  cases hq : (decide (1 ≤ z) && (decide (1 ≤ t) && decide (t ≤ 1048576)))
  · rw [ivl_out hq]; omega
  · have := ivl0 hq hz; omega
theorem iv_zero {a b c d ac en cr ex i t : Int} (h : ¬ (stt a b c d ac en cr ex t = true ∧ 1 ≤ i ∧ i ≤ dom a b c d)) : ivl (sq a b c d ac en cr ex i) t = 0 := by
  have := ivl_nn (sq a b c d ac en cr ex i) t (sq_nonneg a b c d ac en cr ex i).2.1
  have h2 : ¬ 1 ≤ ivl (sq a b c d ac en cr ex i) t := fun h3 => h (iv_pos.1 h3)
  omega
theorem bv_dom {a b c d ac en cr ex : Int} (h : bval a b c d ac en cr ex = true) : 1 ≤ dom a b c d := (dv_ab (bv_iff.1 h).1).1
theorem stt_iff {a b c d ac en cr ex t : Int} : stt a b c d ac en cr ex t = true ↔ bval a b c d ac en cr ex = true ∧ 1 ≤ t ∧ t ≤ 1048576 := by
  unfold stt; simp only [Bool.and_eq_true, decide_eq_true_eq]
theorem st_a (a b c d ac en cr ex t : Int) : (ivl (sq a b c d ac en cr ex (1 : Int)) t == (0 : Int)) = !stt a b c d ac en cr ex t := by
  cases h : stt a b c d ac en cr ex t
  · rw [iv_zero (by rw [h]; simp)]; rfl
  · have := (iv_pos (a := a) (b := b) (c := c) (d := d) (ac := ac) (en := en) (cr := cr) (ex := ex) (i := 1) (t := t)).2 ⟨h, by omega, bv_dom (stt_iff.1 h).1⟩
    rw [Bool.not_true, beq_eq_false_iff_ne]; omega
theorem st_b (a b c d ac en cr ex t : Int) : (bif bif decide (t < (1 : Int)) then true else decide (t > (1048576 : Int)) then true else !bval a b c d ac en cr ex) = !stt a b c d ac en cr ex t := by
  unfold stt
  rw [Bool.eq_iff_iff]
  cases bval a b c d ac en cr ex <;> simp <;> omega
theorem rstop_eq {a b c d ac en cr ex dn wt t : Int} (h1 : inW dn = true) (h2 : inW wt = true) : rstop a b c d ac en cr ex dn wt t = !trun a b c d ac en cr ex dn wt t := by
  unfold inW at h1 h2
  simp only [Bool.and_eq_true, decide_eq_true_eq] at h1 h2
  have D := dom_in a b c d
  rw [Bool.eq_iff_iff]
  by_cases hb : stt a b c d ac en cr ex t = true
  · have hs := stt_iff.1 hb
    have e1 : decide (t < 1) = false := decide_eq_false (by omega)
    have e2 : decide (t > 1048576) = false := decide_eq_false (by omega)
    by_cases hd : 0 ≤ dn ∧ dn ≤ dom a b c d
    · unfold rstop trun
      rw [hs.1, e1, e2, wd (x := dn + 1) (by omega)]
      by_cases he : dn = dom a b c d
      · rw [iv_zero (i := dn + 1) (by omega)]
        simp [he]; omega
      · simp [he]; omega
    · have : ivl (sq a b c d ac en cr ex (IntKind.wrap IntKind.i64 (dn + 1))) t = 0 ∨ dn < 0 := by
        by_cases h : dn < 0
        · exact .inr h
        · left
          by_cases hm : dn = 9223372036854775807
          · subst hm
            exact iv_zero (by rw [show IntKind.wrap IntKind.i64 (9223372036854775807 + 1) = -9223372036854775808 from rfl]; omega)
          · rw [wd (x := dn + 1) (by omega)]; exact iv_zero (by omega)
      have he : ¬ dn = dom a b c d := by omega
      unfold rstop trun
      rw [hs.1, e1, e2]
      rcases this with h | h
      · rw [h]; simp [he]; omega
      · simp [he]; omega
  · have : ivl (sq a b c d ac en cr ex (IntKind.wrap IntKind.i64 (dn + 1))) t = 0 := iv_zero (fun h => hb h.1)
    have q := st_b a b c d ac en cr ex t
    unfold rstop trun
    rw [this, q, (by simpa using hb : stt a b c d ac en cr ex t = false)]
    simp; omega
theorem rt_end {a b c d ac en cr ex dn wt t : Int} (h : trun a b c d ac en cr ex dn wt t = true) (hg : tgo wt = false) (h2 : inW wt = true) (he : (bif bval a b c d ac en cr ex then (IntKind.wrap IntKind.i64 (dn + (1 : Int))) == dom a b c d else false) = true) : IntKind.wrap IntKind.i64 (wt - (1 : Int)) = ivl (sq a b c d ac en cr ex (IntKind.wrap IntKind.i64 ((IntKind.wrap IntKind.i64 (dn + (1 : Int))) + (1 : Int)))) t := by
  unfold inW at h2
  simp only [Bool.and_eq_true, decide_eq_true_eq] at h2
  unfold trun at h
  unfold tgo at hg
  simp at h hg
  have D := dom_in a b c d
  rw [wd (by omega)] at hg ⊢
  cases hb : bval a b c d ac en cr ex
  · rw [hb] at he; cases he
  · rw [hb, cond_true, beq_iff_eq] at he
    rw [he, wd (x := dom a b c d + 1) (by omega), iv_zero (by omega)]
    omega
set_option maxRecDepth 100000 in
theorem sta_tree (a : Int) (b : Int) (c : Int) (d : Int) (ac : Int) (en : Int) (cr : Int) (ex : Int) (t : Int) : evalF Try.prog puB_S54 (opens []) L0 9 9 [.ag [.v false (.int .i64 a), .v false (.int .i64 b), .v false (.int .i64 c), .v false (.int .i64 d), .v false (.int .i64 ac), .v false (.int .i64 en), .v false (.int .i64 cr), .v false (.int .i64 ex)], .one (.v false (.int .i64 t))] = .ret (.tup [(true, [.v false (.int .i64 (bif ivl (sq a b c d ac en cr ex (1 : Int)) t == (0 : Int) then (0 : Int) else a)), .v false (.int .i64 (bif ivl (sq a b c d ac en cr ex (1 : Int)) t == (0 : Int) then (0 : Int) else b)), .v false (.int .i64 (bif ivl (sq a b c d ac en cr ex (1 : Int)) t == (0 : Int) then (0 : Int) else c)), .v false (.int .i64 (bif ivl (sq a b c d ac en cr ex (1 : Int)) t == (0 : Int) then (0 : Int) else d)), .v false (.int .i64 (bif ivl (sq a b c d ac en cr ex (1 : Int)) t == (0 : Int) then (0 : Int) else ac)), .v false (.int .i64 (bif ivl (sq a b c d ac en cr ex (1 : Int)) t == (0 : Int) then (0 : Int) else en)), .v false (.int .i64 (bif ivl (sq a b c d ac en cr ex (1 : Int)) t == (0 : Int) then (0 : Int) else cr)), .v false (.int .i64 (bif ivl (sq a b c d ac en cr ex (1 : Int)) t == (0 : Int) then (0 : Int) else ex)), .v false (.int .i64 (bif ivl (sq a b c d ac en cr ex (1 : Int)) t == (0 : Int) then (0 : Int) else (0 : Int))), .v false (.int .i64 (bif ivl (sq a b c d ac en cr ex (1 : Int)) t == (0 : Int) then (0 : Int) else ivl (sq a b c d ac en cr ex (1 : Int)) t))]), (false, [.v false (.int .i64 (bif ivl (sq a b c d ac en cr ex (1 : Int)) t == (0 : Int) then (1 : Int) else (0 : Int)))])]) := by kernel_rfl
set_option maxHeartbeats 4000000 in
theorem sta_val (a : Int) (b : Int) (c : Int) (d : Int) (ac : Int) (en : Int) (cr : Int) (ex : Int) (t : Int) : (.ret (.tup [(true, [.v false (.int .i64 (bif ivl (sq a b c d ac en cr ex (1 : Int)) t == (0 : Int) then (0 : Int) else a)), .v false (.int .i64 (bif ivl (sq a b c d ac en cr ex (1 : Int)) t == (0 : Int) then (0 : Int) else b)), .v false (.int .i64 (bif ivl (sq a b c d ac en cr ex (1 : Int)) t == (0 : Int) then (0 : Int) else c)), .v false (.int .i64 (bif ivl (sq a b c d ac en cr ex (1 : Int)) t == (0 : Int) then (0 : Int) else d)), .v false (.int .i64 (bif ivl (sq a b c d ac en cr ex (1 : Int)) t == (0 : Int) then (0 : Int) else ac)), .v false (.int .i64 (bif ivl (sq a b c d ac en cr ex (1 : Int)) t == (0 : Int) then (0 : Int) else en)), .v false (.int .i64 (bif ivl (sq a b c d ac en cr ex (1 : Int)) t == (0 : Int) then (0 : Int) else cr)), .v false (.int .i64 (bif ivl (sq a b c d ac en cr ex (1 : Int)) t == (0 : Int) then (0 : Int) else ex)), .v false (.int .i64 (bif ivl (sq a b c d ac en cr ex (1 : Int)) t == (0 : Int) then (0 : Int) else (0 : Int))), .v false (.int .i64 (bif ivl (sq a b c d ac en cr ex (1 : Int)) t == (0 : Int) then (0 : Int) else ivl (sq a b c d ac en cr ex (1 : Int)) t))]), (false, [.v false (.int .i64 (bif ivl (sq a b c d ac en cr ex (1 : Int)) t == (0 : Int) then (1 : Int) else (0 : Int)))])]) : Tr AV).val = some (.tup [(true, [.v false (.int .i64 (bif stt a b c d ac en cr ex t then a else 0)), .v false (.int .i64 (bif stt a b c d ac en cr ex t then b else 0)), .v false (.int .i64 (bif stt a b c d ac en cr ex t then c else 0)), .v false (.int .i64 (bif stt a b c d ac en cr ex t then d else 0)), .v false (.int .i64 (bif stt a b c d ac en cr ex t then ac else 0)), .v false (.int .i64 (bif stt a b c d ac en cr ex t then en else 0)), .v false (.int .i64 (bif stt a b c d ac en cr ex t then cr else 0)), .v false (.int .i64 (bif stt a b c d ac en cr ex t then ex else 0)), .v false (.int .i64 (0)), .v false (.int .i64 (bif stt a b c d ac en cr ex t then ivl (sq a b c d ac en cr ex 1) t else 0))]), (false, [.v false (.int .i64 (bif stt a b c d ac en cr ex t then 0 else 1))])]) := by
  simp only [st_a]
  cases stt a b c d ac en cr ex t <;> rfl
noncomputable def sta_g : List AV → Option (Tr AV)
  | [.ag [.v _ (.int .i64 a), .v _ (.int .i64 b), .v _ (.int .i64 c), .v _ (.int .i64 d), .v _ (.int .i64 ac), .v _ (.int .i64 en), .v _ (.int .i64 cr), .v _ (.int .i64 ex)], .one (.v _ (.int .i64 t))] => some (.ret (.tup [(true, [.v false (.int .i64 (bif stt a b c d ac en cr ex t then a else 0)), .v false (.int .i64 (bif stt a b c d ac en cr ex t then b else 0)), .v false (.int .i64 (bif stt a b c d ac en cr ex t then c else 0)), .v false (.int .i64 (bif stt a b c d ac en cr ex t then d else 0)), .v false (.int .i64 (bif stt a b c d ac en cr ex t then ac else 0)), .v false (.int .i64 (bif stt a b c d ac en cr ex t then en else 0)), .v false (.int .i64 (bif stt a b c d ac en cr ex t then cr else 0)), .v false (.int .i64 (bif stt a b c d ac en cr ex t then ex else 0)), .v false (.int .i64 (0)), .v false (.int .i64 (bif stt a b c d ac en cr ex t then ivl (sq a b c d ac en cr ex 1) t else 0))]), (false, [.v false (.int .i64 (bif stt a b c d ac en cr ex t then 0 else 1))])]))
  | _ => none
set_option maxHeartbeats 4000000 in
theorem sta_ok : FunOK Try.prog 9 sta_g := by
  refine fun_ok (by kernel_rfl) (puB_S54_ok) (L0_ok _) 9 (On := (opens [])) (fun args t h => ?_)
  unfold sta_g at h
  split at h
  · rename_i _ a _ b _ c _ d _ ac _ en _ cr _ ex _ t
    simp only [Option.some.injEq] at h
    subst h
    refine ⟨[.ag [.v false (.int .i64 a), .v false (.int .i64 b), .v false (.int .i64 c), .v false (.int .i64 d), .v false (.int .i64 ac), .v false (.int .i64 en), .v false (.int .i64 cr), .v false (.int .i64 ex)], .one (.v false (.int .i64 t))], rfl, fun fr w us h => h, fun r hr => ?_⟩
    simp only [Tr.val, Option.some.injEq] at hr
    subst hr
    rw [sta_tree]
    exact sta_val a b c d ac en cr ex t
  · cases h
noncomputable def puC_S51 : Sums := addS 9 sta_g puB_S54
theorem puC_S51_ok : SumOK Try.prog puC_S51 := addS_ok (sta_ok) (puB_S54_ok)
set_option maxRecDepth 100000 in
theorem stb_tree (a : Int) (b : Int) (c : Int) (d : Int) (ac : Int) (en : Int) (cr : Int) (ex : Int) (t : Int) : evalF Try.prog puC_S51 (opens []) L0 9 17 [.ag [.v false (.int .i64 a), .v false (.int .i64 b), .v false (.int .i64 c), .v false (.int .i64 d), .v false (.int .i64 ac), .v false (.int .i64 en), .v false (.int .i64 cr), .v false (.int .i64 ex)], .one (.v false (.int .i64 t))] = .ret (.tup [(true, [.v false (.int .i64 (bif bif bif decide (t < (1 : Int)) then true else decide (t > (1048576 : Int)) then true else !bval a b c d ac en cr ex then (0 : Int) else a)), .v false (.int .i64 (bif bif bif decide (t < (1 : Int)) then true else decide (t > (1048576 : Int)) then true else !bval a b c d ac en cr ex then (0 : Int) else b)), .v false (.int .i64 (bif bif bif decide (t < (1 : Int)) then true else decide (t > (1048576 : Int)) then true else !bval a b c d ac en cr ex then (0 : Int) else c)), .v false (.int .i64 (bif bif bif decide (t < (1 : Int)) then true else decide (t > (1048576 : Int)) then true else !bval a b c d ac en cr ex then (0 : Int) else d)), .v false (.int .i64 (bif bif bif decide (t < (1 : Int)) then true else decide (t > (1048576 : Int)) then true else !bval a b c d ac en cr ex then (0 : Int) else ac)), .v false (.int .i64 (bif bif bif decide (t < (1 : Int)) then true else decide (t > (1048576 : Int)) then true else !bval a b c d ac en cr ex then (0 : Int) else en)), .v false (.int .i64 (bif bif bif decide (t < (1 : Int)) then true else decide (t > (1048576 : Int)) then true else !bval a b c d ac en cr ex then (0 : Int) else cr)), .v false (.int .i64 (bif bif bif decide (t < (1 : Int)) then true else decide (t > (1048576 : Int)) then true else !bval a b c d ac en cr ex then (0 : Int) else ex)), .v false (.int .i64 (bif bif bif decide (t < (1 : Int)) then true else decide (t > (1048576 : Int)) then true else !bval a b c d ac en cr ex then (0 : Int) else (0 : Int))), .v false (.int .i64 (bif bif bif decide (t < (1 : Int)) then true else decide (t > (1048576 : Int)) then true else !bval a b c d ac en cr ex then (0 : Int) else ivl (sq a b c d ac en cr ex (1 : Int)) t))]), (false, [.v false (.int .i64 (bif bif bif decide (t < (1 : Int)) then true else decide (t > (1048576 : Int)) then true else !bval a b c d ac en cr ex then (1 : Int) else (0 : Int)))])]) := by kernel_rfl
set_option maxHeartbeats 4000000 in
theorem stb_val (a : Int) (b : Int) (c : Int) (d : Int) (ac : Int) (en : Int) (cr : Int) (ex : Int) (t : Int) : (.ret (.tup [(true, [.v false (.int .i64 (bif bif bif decide (t < (1 : Int)) then true else decide (t > (1048576 : Int)) then true else !bval a b c d ac en cr ex then (0 : Int) else a)), .v false (.int .i64 (bif bif bif decide (t < (1 : Int)) then true else decide (t > (1048576 : Int)) then true else !bval a b c d ac en cr ex then (0 : Int) else b)), .v false (.int .i64 (bif bif bif decide (t < (1 : Int)) then true else decide (t > (1048576 : Int)) then true else !bval a b c d ac en cr ex then (0 : Int) else c)), .v false (.int .i64 (bif bif bif decide (t < (1 : Int)) then true else decide (t > (1048576 : Int)) then true else !bval a b c d ac en cr ex then (0 : Int) else d)), .v false (.int .i64 (bif bif bif decide (t < (1 : Int)) then true else decide (t > (1048576 : Int)) then true else !bval a b c d ac en cr ex then (0 : Int) else ac)), .v false (.int .i64 (bif bif bif decide (t < (1 : Int)) then true else decide (t > (1048576 : Int)) then true else !bval a b c d ac en cr ex then (0 : Int) else en)), .v false (.int .i64 (bif bif bif decide (t < (1 : Int)) then true else decide (t > (1048576 : Int)) then true else !bval a b c d ac en cr ex then (0 : Int) else cr)), .v false (.int .i64 (bif bif bif decide (t < (1 : Int)) then true else decide (t > (1048576 : Int)) then true else !bval a b c d ac en cr ex then (0 : Int) else ex)), .v false (.int .i64 (bif bif bif decide (t < (1 : Int)) then true else decide (t > (1048576 : Int)) then true else !bval a b c d ac en cr ex then (0 : Int) else (0 : Int))), .v false (.int .i64 (bif bif bif decide (t < (1 : Int)) then true else decide (t > (1048576 : Int)) then true else !bval a b c d ac en cr ex then (0 : Int) else ivl (sq a b c d ac en cr ex (1 : Int)) t))]), (false, [.v false (.int .i64 (bif bif bif decide (t < (1 : Int)) then true else decide (t > (1048576 : Int)) then true else !bval a b c d ac en cr ex then (1 : Int) else (0 : Int)))])]) : Tr AV).val = some (.tup [(true, [.v false (.int .i64 (bif stt a b c d ac en cr ex t then a else 0)), .v false (.int .i64 (bif stt a b c d ac en cr ex t then b else 0)), .v false (.int .i64 (bif stt a b c d ac en cr ex t then c else 0)), .v false (.int .i64 (bif stt a b c d ac en cr ex t then d else 0)), .v false (.int .i64 (bif stt a b c d ac en cr ex t then ac else 0)), .v false (.int .i64 (bif stt a b c d ac en cr ex t then en else 0)), .v false (.int .i64 (bif stt a b c d ac en cr ex t then cr else 0)), .v false (.int .i64 (bif stt a b c d ac en cr ex t then ex else 0)), .v false (.int .i64 (0)), .v false (.int .i64 (bif stt a b c d ac en cr ex t then ivl (sq a b c d ac en cr ex 1) t else 0))]), (false, [.v false (.int .i64 (bif stt a b c d ac en cr ex t then 0 else 1))])]) := by
  simp only [st_b]
  cases stt a b c d ac en cr ex t <;> rfl
noncomputable def stb_g : List AV → Option (Tr AV)
  | [.ag [.v _ (.int .i64 a), .v _ (.int .i64 b), .v _ (.int .i64 c), .v _ (.int .i64 d), .v _ (.int .i64 ac), .v _ (.int .i64 en), .v _ (.int .i64 cr), .v _ (.int .i64 ex)], .one (.v _ (.int .i64 t))] => some (.ret (.tup [(true, [.v false (.int .i64 (bif stt a b c d ac en cr ex t then a else 0)), .v false (.int .i64 (bif stt a b c d ac en cr ex t then b else 0)), .v false (.int .i64 (bif stt a b c d ac en cr ex t then c else 0)), .v false (.int .i64 (bif stt a b c d ac en cr ex t then d else 0)), .v false (.int .i64 (bif stt a b c d ac en cr ex t then ac else 0)), .v false (.int .i64 (bif stt a b c d ac en cr ex t then en else 0)), .v false (.int .i64 (bif stt a b c d ac en cr ex t then cr else 0)), .v false (.int .i64 (bif stt a b c d ac en cr ex t then ex else 0)), .v false (.int .i64 (0)), .v false (.int .i64 (bif stt a b c d ac en cr ex t then ivl (sq a b c d ac en cr ex 1) t else 0))]), (false, [.v false (.int .i64 (bif stt a b c d ac en cr ex t then 0 else 1))])]))
  | _ => none
set_option maxHeartbeats 4000000 in
theorem stb_ok : FunOK Try.prog 17 stb_g := by
  refine fun_ok (by kernel_rfl) (puC_S51_ok) (L0_ok _) 9 (On := (opens [])) (fun args t h => ?_)
  unfold stb_g at h
  split at h
  · rename_i _ a _ b _ c _ d _ ac _ en _ cr _ ex _ t
    simp only [Option.some.injEq] at h
    subst h
    refine ⟨[.ag [.v false (.int .i64 a), .v false (.int .i64 b), .v false (.int .i64 c), .v false (.int .i64 d), .v false (.int .i64 ac), .v false (.int .i64 en), .v false (.int .i64 cr), .v false (.int .i64 ex)], .one (.v false (.int .i64 t))], rfl, fun fr w us h => h, fun r hr => ?_⟩
    simp only [Tr.val, Option.some.injEq] at hr
    subst hr
    rw [stb_tree]
    exact stb_val a b c d ac en cr ex t
  · cases h
noncomputable def puC_S52 : Sums := addS 17 stb_g puC_S51
theorem puC_S52_ok : SumOK Try.prog puC_S52 := addS_ok (stb_ok) (puC_S51_ok)
set_option maxRecDepth 100000 in
theorem eda_tree (a : Int) (b : Int) (c : Int) (d : Int) (ac : Int) (en : Int) (cr : Int) (ex : Int) (dn : Int) (wt : Int) : evalF Try.prog puC_S52 (opens []) L0 9 12 [.ag [.v false (.int .i64 a), .v false (.int .i64 b), .v false (.int .i64 c), .v false (.int .i64 d), .v false (.int .i64 ac), .v false (.int .i64 en), .v false (.int .i64 cr), .v false (.int .i64 ex), .v false (.int .i64 dn), .v false (.int .i64 wt)]] = .ret (.one (.v false (.bool (bif bval a b c d ac en cr ex then dn == dom a b c d else false)))) := by kernel_rfl
set_option maxHeartbeats 4000000 in
theorem eda_val (a : Int) (b : Int) (c : Int) (d : Int) (ac : Int) (en : Int) (cr : Int) (ex : Int) (dn : Int) (wt : Int) : (.ret (.one (.v false (.bool (bif bval a b c d ac en cr ex then dn == dom a b c d else false)))) : Tr AV).val = some (.one (.v false (.bool (edv a b c d ac en cr ex dn)))) := by
  rfl
noncomputable def eda_g : List AV → Option (Tr AV)
  | [.ag [.v _ (.int .i64 a), .v _ (.int .i64 b), .v _ (.int .i64 c), .v _ (.int .i64 d), .v _ (.int .i64 ac), .v _ (.int .i64 en), .v _ (.int .i64 cr), .v _ (.int .i64 ex), .v _ (.int .i64 dn), .v _ (.int .i64 wt)]] => some (.ret (.one (.v false (.bool (edv a b c d ac en cr ex dn)))))
  | _ => none
set_option maxHeartbeats 4000000 in
theorem eda_ok : FunOK Try.prog 12 eda_g := by
  refine fun_ok (by kernel_rfl) (puC_S52_ok) (L0_ok _) 9 (On := (opens [])) (fun args t h => ?_)
  unfold eda_g at h
  split at h
  · rename_i _ a _ b _ c _ d _ ac _ en _ cr _ ex _ dn _ wt
    simp only [Option.some.injEq] at h
    subst h
    refine ⟨[.ag [.v false (.int .i64 a), .v false (.int .i64 b), .v false (.int .i64 c), .v false (.int .i64 d), .v false (.int .i64 ac), .v false (.int .i64 en), .v false (.int .i64 cr), .v false (.int .i64 ex), .v false (.int .i64 dn), .v false (.int .i64 wt)]], rfl, fun fr w us h => h, fun r hr => ?_⟩
    simp only [Tr.val, Option.some.injEq] at hr
    subst hr
    rw [eda_tree]
    exact eda_val a b c d ac en cr ex dn wt
  · cases h
noncomputable def puC_S53 : Sums := addS 12 eda_g puC_S52
theorem puC_S53_ok : SumOK Try.prog puC_S53 := addS_ok (eda_ok) (puC_S52_ok)
set_option maxRecDepth 100000 in
theorem edb_tree (a : Int) (b : Int) (c : Int) (d : Int) (ac : Int) (en : Int) (cr : Int) (ex : Int) (dn : Int) (wt : Int) : evalF Try.prog puC_S53 (opens []) L0 9 20 [.ag [.v false (.int .i64 a), .v false (.int .i64 b), .v false (.int .i64 c), .v false (.int .i64 d), .v false (.int .i64 ac), .v false (.int .i64 en), .v false (.int .i64 cr), .v false (.int .i64 ex), .v false (.int .i64 dn), .v false (.int .i64 wt)]] = .ret (.one (.v false (.bool (bif bval a b c d ac en cr ex then dn == dom a b c d else false)))) := by kernel_rfl
set_option maxHeartbeats 4000000 in
theorem edb_val (a : Int) (b : Int) (c : Int) (d : Int) (ac : Int) (en : Int) (cr : Int) (ex : Int) (dn : Int) (wt : Int) : (.ret (.one (.v false (.bool (bif bval a b c d ac en cr ex then dn == dom a b c d else false)))) : Tr AV).val = some (.one (.v false (.bool (edv a b c d ac en cr ex dn)))) := by
  rfl
noncomputable def edb_g : List AV → Option (Tr AV)
  | [.ag [.v _ (.int .i64 a), .v _ (.int .i64 b), .v _ (.int .i64 c), .v _ (.int .i64 d), .v _ (.int .i64 ac), .v _ (.int .i64 en), .v _ (.int .i64 cr), .v _ (.int .i64 ex), .v _ (.int .i64 dn), .v _ (.int .i64 wt)]] => some (.ret (.one (.v false (.bool (edv a b c d ac en cr ex dn)))))
  | _ => none
set_option maxHeartbeats 4000000 in
theorem edb_ok : FunOK Try.prog 20 edb_g := by
  refine fun_ok (by kernel_rfl) (puC_S53_ok) (L0_ok _) 9 (On := (opens [])) (fun args t h => ?_)
  unfold edb_g at h
  split at h
  · rename_i _ a _ b _ c _ d _ ac _ en _ cr _ ex _ dn _ wt
    simp only [Option.some.injEq] at h
    subst h
    refine ⟨[.ag [.v false (.int .i64 a), .v false (.int .i64 b), .v false (.int .i64 c), .v false (.int .i64 d), .v false (.int .i64 ac), .v false (.int .i64 en), .v false (.int .i64 cr), .v false (.int .i64 ex), .v false (.int .i64 dn), .v false (.int .i64 wt)]], rfl, fun fr w us h => h, fun r hr => ?_⟩
    simp only [Tr.val, Option.some.injEq] at hr
    subst hr
    rw [edb_tree]
    exact edb_val a b c d ac en cr ex dn wt
  · cases h
noncomputable def puC_S54 : Sums := addS 20 edb_g puC_S53
theorem puC_S54_ok : SumOK Try.prog puC_S54 := addS_ok (edb_ok) (puC_S53_ok)
set_option maxRecDepth 100000 in
theorem mda_tree (a : Int) (b : Int) (c : Int) (d : Int) (ac : Int) (en : Int) (cr : Int) (ex : Int) (dn : Int) (wt : Int) : evalF Try.prog puC_S54 (opens []) L0 9 16 [.ag [.v false (.int .i64 a), .v false (.int .i64 b), .v false (.int .i64 c), .v false (.int .i64 d), .v false (.int .i64 ac), .v false (.int .i64 en), .v false (.int .i64 cr), .v false (.int .i64 ex), .v false (.int .i64 dn), .v false (.int .i64 wt)]] = .ret (.ag [.v false (.int .i64 (bif bif bif !bval a b c d ac en cr ex then true else decide (dn < (0 : Int)) then true else decide (dn > dom a b c d) then (0 : Int) else atv a b c d dn a)), .v false (.int .i64 (bif bif bif !bval a b c d ac en cr ex then true else decide (dn < (0 : Int)) then true else decide (dn > dom a b c d) then (0 : Int) else atv a b c d dn b)), .v false (.int .i64 (bif bif bif !bval a b c d ac en cr ex then true else decide (dn < (0 : Int)) then true else decide (dn > dom a b c d) then (0 : Int) else atv a b c d dn c)), .v false (.int .i64 (bif bif bif !bval a b c d ac en cr ex then true else decide (dn < (0 : Int)) then true else decide (dn > dom a b c d) then (0 : Int) else atv a b c d dn d))]) := by kernel_rfl
set_option maxHeartbeats 4000000 in
theorem mda_val (a : Int) (b : Int) (c : Int) (d : Int) (ac : Int) (en : Int) (cr : Int) (ex : Int) (dn : Int) (wt : Int) : (.ret (.ag [.v false (.int .i64 (bif bif bif !bval a b c d ac en cr ex then true else decide (dn < (0 : Int)) then true else decide (dn > dom a b c d) then (0 : Int) else atv a b c d dn a)), .v false (.int .i64 (bif bif bif !bval a b c d ac en cr ex then true else decide (dn < (0 : Int)) then true else decide (dn > dom a b c d) then (0 : Int) else atv a b c d dn b)), .v false (.int .i64 (bif bif bif !bval a b c d ac en cr ex then true else decide (dn < (0 : Int)) then true else decide (dn > dom a b c d) then (0 : Int) else atv a b c d dn c)), .v false (.int .i64 (bif bif bif !bval a b c d ac en cr ex then true else decide (dn < (0 : Int)) then true else decide (dn > dom a b c d) then (0 : Int) else atv a b c d dn d))]) : Tr AV).val = some (.ag [.v false (.int .i64 (mdv a b c d ac en cr ex dn a)), .v false (.int .i64 (mdv a b c d ac en cr ex dn b)), .v false (.int .i64 (mdv a b c d ac en cr ex dn c)), .v false (.int .i64 (mdv a b c d ac en cr ex dn d))]) := by
  rfl
noncomputable def mda_g : List AV → Option (Tr AV)
  | [.ag [.v _ (.int .i64 a), .v _ (.int .i64 b), .v _ (.int .i64 c), .v _ (.int .i64 d), .v _ (.int .i64 ac), .v _ (.int .i64 en), .v _ (.int .i64 cr), .v _ (.int .i64 ex), .v _ (.int .i64 dn), .v _ (.int .i64 wt)]] => some (.ret (.ag [.v false (.int .i64 (mdv a b c d ac en cr ex dn a)), .v false (.int .i64 (mdv a b c d ac en cr ex dn b)), .v false (.int .i64 (mdv a b c d ac en cr ex dn c)), .v false (.int .i64 (mdv a b c d ac en cr ex dn d))]))
  | _ => none
set_option maxHeartbeats 4000000 in
theorem mda_ok : FunOK Try.prog 16 mda_g := by
  refine fun_ok (by kernel_rfl) (puC_S54_ok) (L0_ok _) 9 (On := (opens [])) (fun args t h => ?_)
  unfold mda_g at h
  split at h
  · rename_i _ a _ b _ c _ d _ ac _ en _ cr _ ex _ dn _ wt
    simp only [Option.some.injEq] at h
    subst h
    refine ⟨[.ag [.v false (.int .i64 a), .v false (.int .i64 b), .v false (.int .i64 c), .v false (.int .i64 d), .v false (.int .i64 ac), .v false (.int .i64 en), .v false (.int .i64 cr), .v false (.int .i64 ex), .v false (.int .i64 dn), .v false (.int .i64 wt)]], rfl, fun fr w us h => h, fun r hr => ?_⟩
    simp only [Tr.val, Option.some.injEq] at hr
    subst hr
    rw [mda_tree]
    exact mda_val a b c d ac en cr ex dn wt
  · cases h
noncomputable def puC_S55 : Sums := addS 16 mda_g puC_S54
theorem puC_S55_ok : SumOK Try.prog puC_S55 := addS_ok (mda_ok) (puC_S54_ok)
set_option maxRecDepth 100000 in
theorem mdb_tree (a : Int) (b : Int) (c : Int) (d : Int) (ac : Int) (en : Int) (cr : Int) (ex : Int) (dn : Int) (wt : Int) : evalF Try.prog puC_S55 (opens []) L0 9 19 [.ag [.v false (.int .i64 a), .v false (.int .i64 b), .v false (.int .i64 c), .v false (.int .i64 d), .v false (.int .i64 ac), .v false (.int .i64 en), .v false (.int .i64 cr), .v false (.int .i64 ex), .v false (.int .i64 dn), .v false (.int .i64 wt)]] = .ret (.ag [.v false (.int .i64 (bif bif bif !bval a b c d ac en cr ex then true else decide (dn < (0 : Int)) then true else decide (dn > dom a b c d) then (0 : Int) else atv a b c d dn a)), .v false (.int .i64 (bif bif bif !bval a b c d ac en cr ex then true else decide (dn < (0 : Int)) then true else decide (dn > dom a b c d) then (0 : Int) else atv a b c d dn b)), .v false (.int .i64 (bif bif bif !bval a b c d ac en cr ex then true else decide (dn < (0 : Int)) then true else decide (dn > dom a b c d) then (0 : Int) else atv a b c d dn c)), .v false (.int .i64 (bif bif bif !bval a b c d ac en cr ex then true else decide (dn < (0 : Int)) then true else decide (dn > dom a b c d) then (0 : Int) else atv a b c d dn d))]) := by kernel_rfl
set_option maxHeartbeats 4000000 in
theorem mdb_val (a : Int) (b : Int) (c : Int) (d : Int) (ac : Int) (en : Int) (cr : Int) (ex : Int) (dn : Int) (wt : Int) : (.ret (.ag [.v false (.int .i64 (bif bif bif !bval a b c d ac en cr ex then true else decide (dn < (0 : Int)) then true else decide (dn > dom a b c d) then (0 : Int) else atv a b c d dn a)), .v false (.int .i64 (bif bif bif !bval a b c d ac en cr ex then true else decide (dn < (0 : Int)) then true else decide (dn > dom a b c d) then (0 : Int) else atv a b c d dn b)), .v false (.int .i64 (bif bif bif !bval a b c d ac en cr ex then true else decide (dn < (0 : Int)) then true else decide (dn > dom a b c d) then (0 : Int) else atv a b c d dn c)), .v false (.int .i64 (bif bif bif !bval a b c d ac en cr ex then true else decide (dn < (0 : Int)) then true else decide (dn > dom a b c d) then (0 : Int) else atv a b c d dn d))]) : Tr AV).val = some (.ag [.v false (.int .i64 (mdv a b c d ac en cr ex dn a)), .v false (.int .i64 (mdv a b c d ac en cr ex dn b)), .v false (.int .i64 (mdv a b c d ac en cr ex dn c)), .v false (.int .i64 (mdv a b c d ac en cr ex dn d))]) := by
  rfl
noncomputable def mdb_g : List AV → Option (Tr AV)
  | [.ag [.v _ (.int .i64 a), .v _ (.int .i64 b), .v _ (.int .i64 c), .v _ (.int .i64 d), .v _ (.int .i64 ac), .v _ (.int .i64 en), .v _ (.int .i64 cr), .v _ (.int .i64 ex), .v _ (.int .i64 dn), .v _ (.int .i64 wt)]] => some (.ret (.ag [.v false (.int .i64 (mdv a b c d ac en cr ex dn a)), .v false (.int .i64 (mdv a b c d ac en cr ex dn b)), .v false (.int .i64 (mdv a b c d ac en cr ex dn c)), .v false (.int .i64 (mdv a b c d ac en cr ex dn d))]))
  | _ => none
set_option maxHeartbeats 4000000 in
theorem mdb_ok : FunOK Try.prog 19 mdb_g := by
  refine fun_ok (by kernel_rfl) (puC_S55_ok) (L0_ok _) 9 (On := (opens [])) (fun args t h => ?_)
  unfold mdb_g at h
  split at h
  · rename_i _ a _ b _ c _ d _ ac _ en _ cr _ ex _ dn _ wt
    simp only [Option.some.injEq] at h
    subst h
    refine ⟨[.ag [.v false (.int .i64 a), .v false (.int .i64 b), .v false (.int .i64 c), .v false (.int .i64 d), .v false (.int .i64 ac), .v false (.int .i64 en), .v false (.int .i64 cr), .v false (.int .i64 ex), .v false (.int .i64 dn), .v false (.int .i64 wt)]], rfl, fun fr w us h => h, fun r hr => ?_⟩
    simp only [Tr.val, Option.some.injEq] at hr
    subst hr
    rw [mdb_tree]
    exact mdb_val a b c d ac en cr ex dn wt
  · cases h
noncomputable def puC_S56 : Sums := addS 19 mdb_g puC_S55
theorem puC_S56_ok : SumOK Try.prog puC_S56 := addS_ok (mdb_ok) (puC_S55_ok)
set_option maxRecDepth 100000 in
theorem rvb_tree (a : Int) (b : Int) (c : Int) (d : Int) (ac : Int) (en : Int) (cr : Int) (ex : Int) (dn : Int) (wt : Int) (t : Int) : evalF Try.prog puC_S56 (opens []) L0 9 13 [.ag [.v false (.int .i64 a), .v false (.int .i64 b), .v false (.int .i64 c), .v false (.int .i64 d), .v false (.int .i64 ac), .v false (.int .i64 en), .v false (.int .i64 cr), .v false (.int .i64 ex), .v false (.int .i64 dn), .v false (.int .i64 wt)], .one (.v false (.int .i64 t))] = .ret (.one (.v false (.bool (bif bif bif decide (t < (1 : Int)) then true else decide (t > (1048576 : Int)) then true else !bval a b c d ac en cr ex then false else bif dn == dom a b c d then wt == (0 : Int) else bif bif bif decide (dn ≥ (0 : Int)) then decide (dn < dom a b c d) else false then decide (wt ≥ (1 : Int)) else false then decide (wt ≤ ivl (sq a b c d ac en cr ex (IntKind.wrap IntKind.i64 (dn + (1 : Int)))) t) else false)))) := by kernel_rfl
set_option maxHeartbeats 4000000 in
theorem rvb_val (a : Int) (b : Int) (c : Int) (d : Int) (ac : Int) (en : Int) (cr : Int) (ex : Int) (dn : Int) (wt : Int) (t : Int) : (.ret (.one (.v false (.bool (bif bif bif decide (t < (1 : Int)) then true else decide (t > (1048576 : Int)) then true else !bval a b c d ac en cr ex then false else bif dn == dom a b c d then wt == (0 : Int) else bif bif bif decide (dn ≥ (0 : Int)) then decide (dn < dom a b c d) else false then decide (wt ≥ (1 : Int)) else false then decide (wt ≤ ivl (sq a b c d ac en cr ex (IntKind.wrap IntKind.i64 (dn + (1 : Int)))) t) else false)))) : Tr AV).val = some (.one (.v false (.bool (rvl a b c d ac en cr ex dn wt t)))) := by
  rfl
noncomputable def rvb_g : List AV → Option (Tr AV)
  | [.ag [.v _ (.int .i64 a), .v _ (.int .i64 b), .v _ (.int .i64 c), .v _ (.int .i64 d), .v _ (.int .i64 ac), .v _ (.int .i64 en), .v _ (.int .i64 cr), .v _ (.int .i64 ex), .v _ (.int .i64 dn), .v _ (.int .i64 wt)], .one (.v _ (.int .i64 t))] => some (.ret (.one (.v false (.bool (rvl a b c d ac en cr ex dn wt t)))))
  | _ => none
set_option maxHeartbeats 4000000 in
theorem rvb_ok : FunOK Try.prog 13 rvb_g := by
  refine fun_ok (by kernel_rfl) (puC_S56_ok) (L0_ok _) 9 (On := (opens [])) (fun args t h => ?_)
  unfold rvb_g at h
  split at h
  · rename_i _ a _ b _ c _ d _ ac _ en _ cr _ ex _ dn _ wt _ t
    simp only [Option.some.injEq] at h
    subst h
    refine ⟨[.ag [.v false (.int .i64 a), .v false (.int .i64 b), .v false (.int .i64 c), .v false (.int .i64 d), .v false (.int .i64 ac), .v false (.int .i64 en), .v false (.int .i64 cr), .v false (.int .i64 ex), .v false (.int .i64 dn), .v false (.int .i64 wt)], .one (.v false (.int .i64 t))], rfl, fun fr w us h => h, fun r hr => ?_⟩
    simp only [Tr.val, Option.some.injEq] at hr
    subst hr
    rw [rvb_tree]
    exact rvb_val a b c d ac en cr ex dn wt t
  · cases h
noncomputable def puC_S57 : Sums := addS 13 rvb_g puC_S56
theorem puC_S57_ok : SumOK Try.prog puC_S57 := addS_ok (rvb_ok) (puC_S56_ok)
set_option maxRecDepth 100000 in
theorem tka_tree (a : Int) (b : Int) (c : Int) (d : Int) (ac : Int) (en : Int) (cr : Int) (ex : Int) (dn : Int) (wt : Int) (t : Int) : evalF Try.prog puC_S57 (opens []) L0 9 14 [.ag [.v false (.int .i64 a), .v false (.int .i64 b), .v false (.int .i64 c), .v false (.int .i64 d), .v false (.int .i64 ac), .v false (.int .i64 en), .v false (.int .i64 cr), .v false (.int .i64 ex), .v false (.int .i64 dn), .v false (.int .i64 wt)], .one (.v false (.int .i64 t))] = .br ((bif bif decide (dn ≥ (0 : Int)) then decide (wt ≥ (1 : Int)) else false then (((decide (a = a)) && ((decide (b = b)) && ((decide (c = c)) && ((decide (d = d)) && ((decide (ac = ac)) && ((decide (en = en)) && ((decide (cr = cr)) && ((decide (ex = ex)) && ((decide (dn = dn)) && ((decide (wt = wt)) && ((decide (a = a)) && ((decide (b = b)) && ((decide (c = c)) && ((decide (d = d)) && ((decide (ac = ac)) && ((decide (en = en)) && ((decide (cr = cr)) && ((decide (ex = ex)) && ((decide (dn = dn)) && (decide (wt = wt)))))))))))))))))))))) else (bif true then true else (bif decide (IntKind.wrap IntKind.i64 (wt - (1 : Int)) > (0 : Int)) then true else true)))) (.ret (.tup [(true, [.v false (.int .i64 (bif bif decide (dn ≥ (0 : Int)) then decide (wt ≥ (1 : Int)) else false then bif !decide (wt ≤ ivl (sq a b c d ac en cr ex (IntKind.wrap IntKind.i64 (dn + (1 : Int)))) t) then a else bif decide (IntKind.wrap IntKind.i64 (wt - (1 : Int)) > (0 : Int)) then a else a else bif !false then a else bif decide (IntKind.wrap IntKind.i64 (wt - (1 : Int)) > (0 : Int)) then a else a)), .v false (.int .i64 (bif bif decide (dn ≥ (0 : Int)) then decide (wt ≥ (1 : Int)) else false then bif !decide (wt ≤ ivl (sq a b c d ac en cr ex (IntKind.wrap IntKind.i64 (dn + (1 : Int)))) t) then b else bif decide (IntKind.wrap IntKind.i64 (wt - (1 : Int)) > (0 : Int)) then b else b else bif !false then b else bif decide (IntKind.wrap IntKind.i64 (wt - (1 : Int)) > (0 : Int)) then b else b)), .v false (.int .i64 (bif bif decide (dn ≥ (0 : Int)) then decide (wt ≥ (1 : Int)) else false then bif !decide (wt ≤ ivl (sq a b c d ac en cr ex (IntKind.wrap IntKind.i64 (dn + (1 : Int)))) t) then c else bif decide (IntKind.wrap IntKind.i64 (wt - (1 : Int)) > (0 : Int)) then c else c else bif !false then c else bif decide (IntKind.wrap IntKind.i64 (wt - (1 : Int)) > (0 : Int)) then c else c)), .v false (.int .i64 (bif bif decide (dn ≥ (0 : Int)) then decide (wt ≥ (1 : Int)) else false then bif !decide (wt ≤ ivl (sq a b c d ac en cr ex (IntKind.wrap IntKind.i64 (dn + (1 : Int)))) t) then d else bif decide (IntKind.wrap IntKind.i64 (wt - (1 : Int)) > (0 : Int)) then d else d else bif !false then d else bif decide (IntKind.wrap IntKind.i64 (wt - (1 : Int)) > (0 : Int)) then d else d)), .v false (.int .i64 (bif bif decide (dn ≥ (0 : Int)) then decide (wt ≥ (1 : Int)) else false then bif !decide (wt ≤ ivl (sq a b c d ac en cr ex (IntKind.wrap IntKind.i64 (dn + (1 : Int)))) t) then ac else bif decide (IntKind.wrap IntKind.i64 (wt - (1 : Int)) > (0 : Int)) then ac else ac else bif !false then ac else bif decide (IntKind.wrap IntKind.i64 (wt - (1 : Int)) > (0 : Int)) then ac else ac)), .v false (.int .i64 (bif bif decide (dn ≥ (0 : Int)) then decide (wt ≥ (1 : Int)) else false then bif !decide (wt ≤ ivl (sq a b c d ac en cr ex (IntKind.wrap IntKind.i64 (dn + (1 : Int)))) t) then en else bif decide (IntKind.wrap IntKind.i64 (wt - (1 : Int)) > (0 : Int)) then en else en else bif !false then en else bif decide (IntKind.wrap IntKind.i64 (wt - (1 : Int)) > (0 : Int)) then en else en)), .v false (.int .i64 (bif bif decide (dn ≥ (0 : Int)) then decide (wt ≥ (1 : Int)) else false then bif !decide (wt ≤ ivl (sq a b c d ac en cr ex (IntKind.wrap IntKind.i64 (dn + (1 : Int)))) t) then cr else bif decide (IntKind.wrap IntKind.i64 (wt - (1 : Int)) > (0 : Int)) then cr else cr else bif !false then cr else bif decide (IntKind.wrap IntKind.i64 (wt - (1 : Int)) > (0 : Int)) then cr else cr)), .v false (.int .i64 (bif bif decide (dn ≥ (0 : Int)) then decide (wt ≥ (1 : Int)) else false then bif !decide (wt ≤ ivl (sq a b c d ac en cr ex (IntKind.wrap IntKind.i64 (dn + (1 : Int)))) t) then ex else bif decide (IntKind.wrap IntKind.i64 (wt - (1 : Int)) > (0 : Int)) then ex else ex else bif !false then ex else bif decide (IntKind.wrap IntKind.i64 (wt - (1 : Int)) > (0 : Int)) then ex else ex)), .v false (.int .i64 (bif bif decide (dn ≥ (0 : Int)) then decide (wt ≥ (1 : Int)) else false then bif !decide (wt ≤ ivl (sq a b c d ac en cr ex (IntKind.wrap IntKind.i64 (dn + (1 : Int)))) t) then dn else bif decide (IntKind.wrap IntKind.i64 (wt - (1 : Int)) > (0 : Int)) then dn else IntKind.wrap IntKind.i64 (dn + (1 : Int)) else bif !false then dn else bif decide (IntKind.wrap IntKind.i64 (wt - (1 : Int)) > (0 : Int)) then dn else IntKind.wrap IntKind.i64 (dn + (1 : Int)))), .v false (.int .i64 (bif bif decide (dn ≥ (0 : Int)) then decide (wt ≥ (1 : Int)) else false then bif !decide (wt ≤ ivl (sq a b c d ac en cr ex (IntKind.wrap IntKind.i64 (dn + (1 : Int)))) t) then wt else bif decide (IntKind.wrap IntKind.i64 (wt - (1 : Int)) > (0 : Int)) then IntKind.wrap IntKind.i64 (wt - (1 : Int)) else ivl (sq a b c d ac en cr ex (IntKind.wrap IntKind.i64 (IntKind.wrap IntKind.i64 (dn + (1 : Int)) + (1 : Int)))) t else bif !false then wt else bif decide (IntKind.wrap IntKind.i64 (wt - (1 : Int)) > (0 : Int)) then IntKind.wrap IntKind.i64 (wt - (1 : Int)) else ivl (sq a b c d ac en cr ex (IntKind.wrap IntKind.i64 (IntKind.wrap IntKind.i64 (dn + (1 : Int)) + (1 : Int)))) t))]), (true, [.v false (.int .i64 (bif bif decide (dn ≥ (0 : Int)) then decide (wt ≥ (1 : Int)) else false then bif !decide (wt ≤ ivl (sq a b c d ac en cr ex (IntKind.wrap IntKind.i64 (dn + (1 : Int)))) t) then (0 : Int) else bif decide (IntKind.wrap IntKind.i64 (wt - (1 : Int)) > (0 : Int)) then (0 : Int) else pul a b c d (IntKind.wrap IntKind.i64 (dn + (1 : Int))) a else bif !false then (0 : Int) else bif decide (IntKind.wrap IntKind.i64 (wt - (1 : Int)) > (0 : Int)) then (0 : Int) else pul a b c d (IntKind.wrap IntKind.i64 (dn + (1 : Int))) a)), .v false (.int .i64 (bif bif decide (dn ≥ (0 : Int)) then decide (wt ≥ (1 : Int)) else false then bif !decide (wt ≤ ivl (sq a b c d ac en cr ex (IntKind.wrap IntKind.i64 (dn + (1 : Int)))) t) then (0 : Int) else bif decide (IntKind.wrap IntKind.i64 (wt - (1 : Int)) > (0 : Int)) then (0 : Int) else pul a b c d (IntKind.wrap IntKind.i64 (dn + (1 : Int))) b else bif !false then (0 : Int) else bif decide (IntKind.wrap IntKind.i64 (wt - (1 : Int)) > (0 : Int)) then (0 : Int) else pul a b c d (IntKind.wrap IntKind.i64 (dn + (1 : Int))) b)), .v false (.int .i64 (bif bif decide (dn ≥ (0 : Int)) then decide (wt ≥ (1 : Int)) else false then bif !decide (wt ≤ ivl (sq a b c d ac en cr ex (IntKind.wrap IntKind.i64 (dn + (1 : Int)))) t) then (0 : Int) else bif decide (IntKind.wrap IntKind.i64 (wt - (1 : Int)) > (0 : Int)) then (0 : Int) else pul a b c d (IntKind.wrap IntKind.i64 (dn + (1 : Int))) c else bif !false then (0 : Int) else bif decide (IntKind.wrap IntKind.i64 (wt - (1 : Int)) > (0 : Int)) then (0 : Int) else pul a b c d (IntKind.wrap IntKind.i64 (dn + (1 : Int))) c)), .v false (.int .i64 (bif bif decide (dn ≥ (0 : Int)) then decide (wt ≥ (1 : Int)) else false then bif !decide (wt ≤ ivl (sq a b c d ac en cr ex (IntKind.wrap IntKind.i64 (dn + (1 : Int)))) t) then (0 : Int) else bif decide (IntKind.wrap IntKind.i64 (wt - (1 : Int)) > (0 : Int)) then (0 : Int) else pul a b c d (IntKind.wrap IntKind.i64 (dn + (1 : Int))) d else bif !false then (0 : Int) else bif decide (IntKind.wrap IntKind.i64 (wt - (1 : Int)) > (0 : Int)) then (0 : Int) else pul a b c d (IntKind.wrap IntKind.i64 (dn + (1 : Int))) d))])])) (.bad 116) := by kernel_rfl
set_option maxHeartbeats 4000000 in
theorem tka_val (a : Int) (b : Int) (c : Int) (d : Int) (ac : Int) (en : Int) (cr : Int) (ex : Int) (dn : Int) (wt : Int) (t : Int) : (.br ((bif bif decide (dn ≥ (0 : Int)) then decide (wt ≥ (1 : Int)) else false then (((decide (a = a)) && ((decide (b = b)) && ((decide (c = c)) && ((decide (d = d)) && ((decide (ac = ac)) && ((decide (en = en)) && ((decide (cr = cr)) && ((decide (ex = ex)) && ((decide (dn = dn)) && ((decide (wt = wt)) && ((decide (a = a)) && ((decide (b = b)) && ((decide (c = c)) && ((decide (d = d)) && ((decide (ac = ac)) && ((decide (en = en)) && ((decide (cr = cr)) && ((decide (ex = ex)) && ((decide (dn = dn)) && (decide (wt = wt)))))))))))))))))))))) else (bif true then true else (bif decide (IntKind.wrap IntKind.i64 (wt - (1 : Int)) > (0 : Int)) then true else true)))) (.ret (.tup [(true, [.v false (.int .i64 (bif bif decide (dn ≥ (0 : Int)) then decide (wt ≥ (1 : Int)) else false then bif !decide (wt ≤ ivl (sq a b c d ac en cr ex (IntKind.wrap IntKind.i64 (dn + (1 : Int)))) t) then a else bif decide (IntKind.wrap IntKind.i64 (wt - (1 : Int)) > (0 : Int)) then a else a else bif !false then a else bif decide (IntKind.wrap IntKind.i64 (wt - (1 : Int)) > (0 : Int)) then a else a)), .v false (.int .i64 (bif bif decide (dn ≥ (0 : Int)) then decide (wt ≥ (1 : Int)) else false then bif !decide (wt ≤ ivl (sq a b c d ac en cr ex (IntKind.wrap IntKind.i64 (dn + (1 : Int)))) t) then b else bif decide (IntKind.wrap IntKind.i64 (wt - (1 : Int)) > (0 : Int)) then b else b else bif !false then b else bif decide (IntKind.wrap IntKind.i64 (wt - (1 : Int)) > (0 : Int)) then b else b)), .v false (.int .i64 (bif bif decide (dn ≥ (0 : Int)) then decide (wt ≥ (1 : Int)) else false then bif !decide (wt ≤ ivl (sq a b c d ac en cr ex (IntKind.wrap IntKind.i64 (dn + (1 : Int)))) t) then c else bif decide (IntKind.wrap IntKind.i64 (wt - (1 : Int)) > (0 : Int)) then c else c else bif !false then c else bif decide (IntKind.wrap IntKind.i64 (wt - (1 : Int)) > (0 : Int)) then c else c)), .v false (.int .i64 (bif bif decide (dn ≥ (0 : Int)) then decide (wt ≥ (1 : Int)) else false then bif !decide (wt ≤ ivl (sq a b c d ac en cr ex (IntKind.wrap IntKind.i64 (dn + (1 : Int)))) t) then d else bif decide (IntKind.wrap IntKind.i64 (wt - (1 : Int)) > (0 : Int)) then d else d else bif !false then d else bif decide (IntKind.wrap IntKind.i64 (wt - (1 : Int)) > (0 : Int)) then d else d)), .v false (.int .i64 (bif bif decide (dn ≥ (0 : Int)) then decide (wt ≥ (1 : Int)) else false then bif !decide (wt ≤ ivl (sq a b c d ac en cr ex (IntKind.wrap IntKind.i64 (dn + (1 : Int)))) t) then ac else bif decide (IntKind.wrap IntKind.i64 (wt - (1 : Int)) > (0 : Int)) then ac else ac else bif !false then ac else bif decide (IntKind.wrap IntKind.i64 (wt - (1 : Int)) > (0 : Int)) then ac else ac)), .v false (.int .i64 (bif bif decide (dn ≥ (0 : Int)) then decide (wt ≥ (1 : Int)) else false then bif !decide (wt ≤ ivl (sq a b c d ac en cr ex (IntKind.wrap IntKind.i64 (dn + (1 : Int)))) t) then en else bif decide (IntKind.wrap IntKind.i64 (wt - (1 : Int)) > (0 : Int)) then en else en else bif !false then en else bif decide (IntKind.wrap IntKind.i64 (wt - (1 : Int)) > (0 : Int)) then en else en)), .v false (.int .i64 (bif bif decide (dn ≥ (0 : Int)) then decide (wt ≥ (1 : Int)) else false then bif !decide (wt ≤ ivl (sq a b c d ac en cr ex (IntKind.wrap IntKind.i64 (dn + (1 : Int)))) t) then cr else bif decide (IntKind.wrap IntKind.i64 (wt - (1 : Int)) > (0 : Int)) then cr else cr else bif !false then cr else bif decide (IntKind.wrap IntKind.i64 (wt - (1 : Int)) > (0 : Int)) then cr else cr)), .v false (.int .i64 (bif bif decide (dn ≥ (0 : Int)) then decide (wt ≥ (1 : Int)) else false then bif !decide (wt ≤ ivl (sq a b c d ac en cr ex (IntKind.wrap IntKind.i64 (dn + (1 : Int)))) t) then ex else bif decide (IntKind.wrap IntKind.i64 (wt - (1 : Int)) > (0 : Int)) then ex else ex else bif !false then ex else bif decide (IntKind.wrap IntKind.i64 (wt - (1 : Int)) > (0 : Int)) then ex else ex)), .v false (.int .i64 (bif bif decide (dn ≥ (0 : Int)) then decide (wt ≥ (1 : Int)) else false then bif !decide (wt ≤ ivl (sq a b c d ac en cr ex (IntKind.wrap IntKind.i64 (dn + (1 : Int)))) t) then dn else bif decide (IntKind.wrap IntKind.i64 (wt - (1 : Int)) > (0 : Int)) then dn else IntKind.wrap IntKind.i64 (dn + (1 : Int)) else bif !false then dn else bif decide (IntKind.wrap IntKind.i64 (wt - (1 : Int)) > (0 : Int)) then dn else IntKind.wrap IntKind.i64 (dn + (1 : Int)))), .v false (.int .i64 (bif bif decide (dn ≥ (0 : Int)) then decide (wt ≥ (1 : Int)) else false then bif !decide (wt ≤ ivl (sq a b c d ac en cr ex (IntKind.wrap IntKind.i64 (dn + (1 : Int)))) t) then wt else bif decide (IntKind.wrap IntKind.i64 (wt - (1 : Int)) > (0 : Int)) then IntKind.wrap IntKind.i64 (wt - (1 : Int)) else ivl (sq a b c d ac en cr ex (IntKind.wrap IntKind.i64 (IntKind.wrap IntKind.i64 (dn + (1 : Int)) + (1 : Int)))) t else bif !false then wt else bif decide (IntKind.wrap IntKind.i64 (wt - (1 : Int)) > (0 : Int)) then IntKind.wrap IntKind.i64 (wt - (1 : Int)) else ivl (sq a b c d ac en cr ex (IntKind.wrap IntKind.i64 (IntKind.wrap IntKind.i64 (dn + (1 : Int)) + (1 : Int)))) t))]), (true, [.v false (.int .i64 (bif bif decide (dn ≥ (0 : Int)) then decide (wt ≥ (1 : Int)) else false then bif !decide (wt ≤ ivl (sq a b c d ac en cr ex (IntKind.wrap IntKind.i64 (dn + (1 : Int)))) t) then (0 : Int) else bif decide (IntKind.wrap IntKind.i64 (wt - (1 : Int)) > (0 : Int)) then (0 : Int) else pul a b c d (IntKind.wrap IntKind.i64 (dn + (1 : Int))) a else bif !false then (0 : Int) else bif decide (IntKind.wrap IntKind.i64 (wt - (1 : Int)) > (0 : Int)) then (0 : Int) else pul a b c d (IntKind.wrap IntKind.i64 (dn + (1 : Int))) a)), .v false (.int .i64 (bif bif decide (dn ≥ (0 : Int)) then decide (wt ≥ (1 : Int)) else false then bif !decide (wt ≤ ivl (sq a b c d ac en cr ex (IntKind.wrap IntKind.i64 (dn + (1 : Int)))) t) then (0 : Int) else bif decide (IntKind.wrap IntKind.i64 (wt - (1 : Int)) > (0 : Int)) then (0 : Int) else pul a b c d (IntKind.wrap IntKind.i64 (dn + (1 : Int))) b else bif !false then (0 : Int) else bif decide (IntKind.wrap IntKind.i64 (wt - (1 : Int)) > (0 : Int)) then (0 : Int) else pul a b c d (IntKind.wrap IntKind.i64 (dn + (1 : Int))) b)), .v false (.int .i64 (bif bif decide (dn ≥ (0 : Int)) then decide (wt ≥ (1 : Int)) else false then bif !decide (wt ≤ ivl (sq a b c d ac en cr ex (IntKind.wrap IntKind.i64 (dn + (1 : Int)))) t) then (0 : Int) else bif decide (IntKind.wrap IntKind.i64 (wt - (1 : Int)) > (0 : Int)) then (0 : Int) else pul a b c d (IntKind.wrap IntKind.i64 (dn + (1 : Int))) c else bif !false then (0 : Int) else bif decide (IntKind.wrap IntKind.i64 (wt - (1 : Int)) > (0 : Int)) then (0 : Int) else pul a b c d (IntKind.wrap IntKind.i64 (dn + (1 : Int))) c)), .v false (.int .i64 (bif bif decide (dn ≥ (0 : Int)) then decide (wt ≥ (1 : Int)) else false then bif !decide (wt ≤ ivl (sq a b c d ac en cr ex (IntKind.wrap IntKind.i64 (dn + (1 : Int)))) t) then (0 : Int) else bif decide (IntKind.wrap IntKind.i64 (wt - (1 : Int)) > (0 : Int)) then (0 : Int) else pul a b c d (IntKind.wrap IntKind.i64 (dn + (1 : Int))) d else bif !false then (0 : Int) else bif decide (IntKind.wrap IntKind.i64 (wt - (1 : Int)) > (0 : Int)) then (0 : Int) else pul a b c d (IntKind.wrap IntKind.i64 (dn + (1 : Int))) d))])])) (.bad 116) : Tr AV).val = some (.tup [(true, [.v false (.int .i64 (a)), .v false (.int .i64 (b)), .v false (.int .i64 (c)), .v false (.int .i64 (d)), .v false (.int .i64 (ac)), .v false (.int .i64 (en)), .v false (.int .i64 (cr)), .v false (.int .i64 (ex)), .v false (.int .i64 (tkD a b c d ac en cr ex dn wt t)), .v false (.int .i64 (tkW a b c d ac en cr ex dn wt t))]), (true, [.v false (.int .i64 (tkP a b c d ac en cr ex dn wt t a)), .v false (.int .i64 (tkP a b c d ac en cr ex dn wt t b)), .v false (.int .i64 (tkP a b c d ac en cr ex dn wt t c)), .v false (.int .i64 (tkP a b c d ac en cr ex dn wt t d))])]) := by
  simp only [eq_self, decide_true, Bool.and_self, Bool.cond_self, cond_true, Bool.not_false, Tr.val]
  unfold tkD tkW tkP trun tgo
  generalize decide (dn ≥ (0 : Int)) = g1
  generalize decide (wt ≥ (1 : Int)) = g2
  generalize decide (wt ≤ ivl (sq a b c d ac en cr ex (IntKind.wrap IntKind.i64 (dn + (1 : Int)))) t) = g3
  generalize decide (IntKind.wrap IntKind.i64 (wt - (1 : Int)) > (0 : Int)) = g4
  cases g1 <;> cases g2 <;> cases g3 <;> cases g4 <;> rfl
noncomputable def tka_g : List AV → Option (Tr AV)
  | [.ag [.v _ (.int .i64 a), .v _ (.int .i64 b), .v _ (.int .i64 c), .v _ (.int .i64 d), .v _ (.int .i64 ac), .v _ (.int .i64 en), .v _ (.int .i64 cr), .v _ (.int .i64 ex), .v _ (.int .i64 dn), .v _ (.int .i64 wt)], .one (.v _ (.int .i64 t))] => some (.ret (.tup [(true, [.v false (.int .i64 (a)), .v false (.int .i64 (b)), .v false (.int .i64 (c)), .v false (.int .i64 (d)), .v false (.int .i64 (ac)), .v false (.int .i64 (en)), .v false (.int .i64 (cr)), .v false (.int .i64 (ex)), .v false (.int .i64 (tkD a b c d ac en cr ex dn wt t)), .v false (.int .i64 (tkW a b c d ac en cr ex dn wt t))]), (true, [.v false (.int .i64 (tkP a b c d ac en cr ex dn wt t a)), .v false (.int .i64 (tkP a b c d ac en cr ex dn wt t b)), .v false (.int .i64 (tkP a b c d ac en cr ex dn wt t c)), .v false (.int .i64 (tkP a b c d ac en cr ex dn wt t d))])]))
  | _ => none
set_option maxHeartbeats 4000000 in
theorem tka_ok : FunOK Try.prog 14 tka_g := by
  refine fun_ok (by kernel_rfl) (puC_S57_ok) (L0_ok _) 9 (On := (opens [])) (fun args t h => ?_)
  unfold tka_g at h
  split at h
  · rename_i _ a _ b _ c _ d _ ac _ en _ cr _ ex _ dn _ wt _ t
    simp only [Option.some.injEq] at h
    subst h
    refine ⟨[.ag [.v false (.int .i64 a), .v false (.int .i64 b), .v false (.int .i64 c), .v false (.int .i64 d), .v false (.int .i64 ac), .v false (.int .i64 en), .v false (.int .i64 cr), .v false (.int .i64 ex), .v false (.int .i64 dn), .v false (.int .i64 wt)], .one (.v false (.int .i64 t))], rfl, fun fr w us h => h, fun r hr => ?_⟩
    simp only [Tr.val, Option.some.injEq] at hr
    subst hr
    rw [tka_tree]
    exact tka_val a b c d ac en cr ex dn wt t
  · cases h
noncomputable def puC_S58 : Sums := addS 14 tka_g puC_S57
theorem puC_S58_ok : SumOK Try.prog puC_S58 := addS_ok (tka_ok) (puC_S57_ok)
set_option maxRecDepth 100000 in
theorem tkb_tree (a : Int) (b : Int) (c : Int) (d : Int) (ac : Int) (en : Int) (cr : Int) (ex : Int) (dn : Int) (wt : Int) (t : Int) : evalF Try.prog puC_S58 (opens []) L0 9 18 [.ag [.v false (.int .i64 a), .v false (.int .i64 b), .v false (.int .i64 c), .v false (.int .i64 d), .v false (.int .i64 ac), .v false (.int .i64 en), .v false (.int .i64 cr), .v false (.int .i64 ex), .v false (.int .i64 dn), .v false (.int .i64 wt)], .one (.v false (.int .i64 t))] = .ret (.tup [(true, [.v false (.int .i64 (bif rstop a b c d ac en cr ex dn wt t then a else bif decide (IntKind.wrap IntKind.i64 (wt - (1 : Int)) > (0 : Int)) then a else bif !bif bval a b c d ac en cr ex then IntKind.wrap IntKind.i64 (dn + (1 : Int)) == dom a b c d else false then a else a)), .v false (.int .i64 (bif rstop a b c d ac en cr ex dn wt t then b else bif decide (IntKind.wrap IntKind.i64 (wt - (1 : Int)) > (0 : Int)) then b else bif !bif bval a b c d ac en cr ex then IntKind.wrap IntKind.i64 (dn + (1 : Int)) == dom a b c d else false then b else b)), .v false (.int .i64 (bif rstop a b c d ac en cr ex dn wt t then c else bif decide (IntKind.wrap IntKind.i64 (wt - (1 : Int)) > (0 : Int)) then c else bif !bif bval a b c d ac en cr ex then IntKind.wrap IntKind.i64 (dn + (1 : Int)) == dom a b c d else false then c else c)), .v false (.int .i64 (bif rstop a b c d ac en cr ex dn wt t then d else bif decide (IntKind.wrap IntKind.i64 (wt - (1 : Int)) > (0 : Int)) then d else bif !bif bval a b c d ac en cr ex then IntKind.wrap IntKind.i64 (dn + (1 : Int)) == dom a b c d else false then d else d)), .v false (.int .i64 (bif rstop a b c d ac en cr ex dn wt t then ac else bif decide (IntKind.wrap IntKind.i64 (wt - (1 : Int)) > (0 : Int)) then ac else bif !bif bval a b c d ac en cr ex then IntKind.wrap IntKind.i64 (dn + (1 : Int)) == dom a b c d else false then ac else ac)), .v false (.int .i64 (bif rstop a b c d ac en cr ex dn wt t then en else bif decide (IntKind.wrap IntKind.i64 (wt - (1 : Int)) > (0 : Int)) then en else bif !bif bval a b c d ac en cr ex then IntKind.wrap IntKind.i64 (dn + (1 : Int)) == dom a b c d else false then en else en)), .v false (.int .i64 (bif rstop a b c d ac en cr ex dn wt t then cr else bif decide (IntKind.wrap IntKind.i64 (wt - (1 : Int)) > (0 : Int)) then cr else bif !bif bval a b c d ac en cr ex then IntKind.wrap IntKind.i64 (dn + (1 : Int)) == dom a b c d else false then cr else cr)), .v false (.int .i64 (bif rstop a b c d ac en cr ex dn wt t then ex else bif decide (IntKind.wrap IntKind.i64 (wt - (1 : Int)) > (0 : Int)) then ex else bif !bif bval a b c d ac en cr ex then IntKind.wrap IntKind.i64 (dn + (1 : Int)) == dom a b c d else false then ex else ex)), .v false (.int .i64 (bif rstop a b c d ac en cr ex dn wt t then dn else bif decide (IntKind.wrap IntKind.i64 (wt - (1 : Int)) > (0 : Int)) then dn else bif !bif bval a b c d ac en cr ex then IntKind.wrap IntKind.i64 (dn + (1 : Int)) == dom a b c d else false then IntKind.wrap IntKind.i64 (dn + (1 : Int)) else IntKind.wrap IntKind.i64 (dn + (1 : Int)))), .v false (.int .i64 (bif rstop a b c d ac en cr ex dn wt t then wt else bif decide (IntKind.wrap IntKind.i64 (wt - (1 : Int)) > (0 : Int)) then IntKind.wrap IntKind.i64 (wt - (1 : Int)) else bif !bif bval a b c d ac en cr ex then IntKind.wrap IntKind.i64 (dn + (1 : Int)) == dom a b c d else false then ivl (sq a b c d ac en cr ex (IntKind.wrap IntKind.i64 (IntKind.wrap IntKind.i64 (dn + (1 : Int)) + (1 : Int)))) t else IntKind.wrap IntKind.i64 (wt - (1 : Int))))]), (true, [.v false (.int .i64 (bif rstop a b c d ac en cr ex dn wt t then (0 : Int) else bif decide (IntKind.wrap IntKind.i64 (wt - (1 : Int)) > (0 : Int)) then (0 : Int) else bif !bif bval a b c d ac en cr ex then IntKind.wrap IntKind.i64 (dn + (1 : Int)) == dom a b c d else false then pul a b c d (IntKind.wrap IntKind.i64 (dn + (1 : Int))) a else pul a b c d (IntKind.wrap IntKind.i64 (dn + (1 : Int))) a)), .v false (.int .i64 (bif rstop a b c d ac en cr ex dn wt t then (0 : Int) else bif decide (IntKind.wrap IntKind.i64 (wt - (1 : Int)) > (0 : Int)) then (0 : Int) else bif !bif bval a b c d ac en cr ex then IntKind.wrap IntKind.i64 (dn + (1 : Int)) == dom a b c d else false then pul a b c d (IntKind.wrap IntKind.i64 (dn + (1 : Int))) b else pul a b c d (IntKind.wrap IntKind.i64 (dn + (1 : Int))) b)), .v false (.int .i64 (bif rstop a b c d ac en cr ex dn wt t then (0 : Int) else bif decide (IntKind.wrap IntKind.i64 (wt - (1 : Int)) > (0 : Int)) then (0 : Int) else bif !bif bval a b c d ac en cr ex then IntKind.wrap IntKind.i64 (dn + (1 : Int)) == dom a b c d else false then pul a b c d (IntKind.wrap IntKind.i64 (dn + (1 : Int))) c else pul a b c d (IntKind.wrap IntKind.i64 (dn + (1 : Int))) c)), .v false (.int .i64 (bif rstop a b c d ac en cr ex dn wt t then (0 : Int) else bif decide (IntKind.wrap IntKind.i64 (wt - (1 : Int)) > (0 : Int)) then (0 : Int) else bif !bif bval a b c d ac en cr ex then IntKind.wrap IntKind.i64 (dn + (1 : Int)) == dom a b c d else false then pul a b c d (IntKind.wrap IntKind.i64 (dn + (1 : Int))) d else pul a b c d (IntKind.wrap IntKind.i64 (dn + (1 : Int))) d))])]) := by kernel_rfl
theorem tkb_val (a : Int) (b : Int) (c : Int) (d : Int) (ac : Int) (en : Int) (cr : Int) (ex : Int) (dn : Int) (wt : Int) (t : Int) (hc : (inW dn && inW wt) = true) : (.ret (.tup [(true, [.v false (.int .i64 (bif rstop a b c d ac en cr ex dn wt t then a else bif decide (IntKind.wrap IntKind.i64 (wt - (1 : Int)) > (0 : Int)) then a else bif !bif bval a b c d ac en cr ex then IntKind.wrap IntKind.i64 (dn + (1 : Int)) == dom a b c d else false then a else a)), .v false (.int .i64 (bif rstop a b c d ac en cr ex dn wt t then b else bif decide (IntKind.wrap IntKind.i64 (wt - (1 : Int)) > (0 : Int)) then b else bif !bif bval a b c d ac en cr ex then IntKind.wrap IntKind.i64 (dn + (1 : Int)) == dom a b c d else false then b else b)), .v false (.int .i64 (bif rstop a b c d ac en cr ex dn wt t then c else bif decide (IntKind.wrap IntKind.i64 (wt - (1 : Int)) > (0 : Int)) then c else bif !bif bval a b c d ac en cr ex then IntKind.wrap IntKind.i64 (dn + (1 : Int)) == dom a b c d else false then c else c)), .v false (.int .i64 (bif rstop a b c d ac en cr ex dn wt t then d else bif decide (IntKind.wrap IntKind.i64 (wt - (1 : Int)) > (0 : Int)) then d else bif !bif bval a b c d ac en cr ex then IntKind.wrap IntKind.i64 (dn + (1 : Int)) == dom a b c d else false then d else d)), .v false (.int .i64 (bif rstop a b c d ac en cr ex dn wt t then ac else bif decide (IntKind.wrap IntKind.i64 (wt - (1 : Int)) > (0 : Int)) then ac else bif !bif bval a b c d ac en cr ex then IntKind.wrap IntKind.i64 (dn + (1 : Int)) == dom a b c d else false then ac else ac)), .v false (.int .i64 (bif rstop a b c d ac en cr ex dn wt t then en else bif decide (IntKind.wrap IntKind.i64 (wt - (1 : Int)) > (0 : Int)) then en else bif !bif bval a b c d ac en cr ex then IntKind.wrap IntKind.i64 (dn + (1 : Int)) == dom a b c d else false then en else en)), .v false (.int .i64 (bif rstop a b c d ac en cr ex dn wt t then cr else bif decide (IntKind.wrap IntKind.i64 (wt - (1 : Int)) > (0 : Int)) then cr else bif !bif bval a b c d ac en cr ex then IntKind.wrap IntKind.i64 (dn + (1 : Int)) == dom a b c d else false then cr else cr)), .v false (.int .i64 (bif rstop a b c d ac en cr ex dn wt t then ex else bif decide (IntKind.wrap IntKind.i64 (wt - (1 : Int)) > (0 : Int)) then ex else bif !bif bval a b c d ac en cr ex then IntKind.wrap IntKind.i64 (dn + (1 : Int)) == dom a b c d else false then ex else ex)), .v false (.int .i64 (bif rstop a b c d ac en cr ex dn wt t then dn else bif decide (IntKind.wrap IntKind.i64 (wt - (1 : Int)) > (0 : Int)) then dn else bif !bif bval a b c d ac en cr ex then IntKind.wrap IntKind.i64 (dn + (1 : Int)) == dom a b c d else false then IntKind.wrap IntKind.i64 (dn + (1 : Int)) else IntKind.wrap IntKind.i64 (dn + (1 : Int)))), .v false (.int .i64 (bif rstop a b c d ac en cr ex dn wt t then wt else bif decide (IntKind.wrap IntKind.i64 (wt - (1 : Int)) > (0 : Int)) then IntKind.wrap IntKind.i64 (wt - (1 : Int)) else bif !bif bval a b c d ac en cr ex then IntKind.wrap IntKind.i64 (dn + (1 : Int)) == dom a b c d else false then ivl (sq a b c d ac en cr ex (IntKind.wrap IntKind.i64 (IntKind.wrap IntKind.i64 (dn + (1 : Int)) + (1 : Int)))) t else IntKind.wrap IntKind.i64 (wt - (1 : Int))))]), (true, [.v false (.int .i64 (bif rstop a b c d ac en cr ex dn wt t then (0 : Int) else bif decide (IntKind.wrap IntKind.i64 (wt - (1 : Int)) > (0 : Int)) then (0 : Int) else bif !bif bval a b c d ac en cr ex then IntKind.wrap IntKind.i64 (dn + (1 : Int)) == dom a b c d else false then pul a b c d (IntKind.wrap IntKind.i64 (dn + (1 : Int))) a else pul a b c d (IntKind.wrap IntKind.i64 (dn + (1 : Int))) a)), .v false (.int .i64 (bif rstop a b c d ac en cr ex dn wt t then (0 : Int) else bif decide (IntKind.wrap IntKind.i64 (wt - (1 : Int)) > (0 : Int)) then (0 : Int) else bif !bif bval a b c d ac en cr ex then IntKind.wrap IntKind.i64 (dn + (1 : Int)) == dom a b c d else false then pul a b c d (IntKind.wrap IntKind.i64 (dn + (1 : Int))) b else pul a b c d (IntKind.wrap IntKind.i64 (dn + (1 : Int))) b)), .v false (.int .i64 (bif rstop a b c d ac en cr ex dn wt t then (0 : Int) else bif decide (IntKind.wrap IntKind.i64 (wt - (1 : Int)) > (0 : Int)) then (0 : Int) else bif !bif bval a b c d ac en cr ex then IntKind.wrap IntKind.i64 (dn + (1 : Int)) == dom a b c d else false then pul a b c d (IntKind.wrap IntKind.i64 (dn + (1 : Int))) c else pul a b c d (IntKind.wrap IntKind.i64 (dn + (1 : Int))) c)), .v false (.int .i64 (bif rstop a b c d ac en cr ex dn wt t then (0 : Int) else bif decide (IntKind.wrap IntKind.i64 (wt - (1 : Int)) > (0 : Int)) then (0 : Int) else bif !bif bval a b c d ac en cr ex then IntKind.wrap IntKind.i64 (dn + (1 : Int)) == dom a b c d else false then pul a b c d (IntKind.wrap IntKind.i64 (dn + (1 : Int))) d else pul a b c d (IntKind.wrap IntKind.i64 (dn + (1 : Int))) d))])]) : Tr AV).val = some (.tup [(true, [.v false (.int .i64 (a)), .v false (.int .i64 (b)), .v false (.int .i64 (c)), .v false (.int .i64 (d)), .v false (.int .i64 (ac)), .v false (.int .i64 (en)), .v false (.int .i64 (cr)), .v false (.int .i64 (ex)), .v false (.int .i64 (tkD a b c d ac en cr ex dn wt t)), .v false (.int .i64 (tkW a b c d ac en cr ex dn wt t))]), (true, [.v false (.int .i64 (tkP a b c d ac en cr ex dn wt t a)), .v false (.int .i64 (tkP a b c d ac en cr ex dn wt t b)), .v false (.int .i64 (tkP a b c d ac en cr ex dn wt t c)), .v false (.int .i64 (tkP a b c d ac en cr ex dn wt t d))])]) := by
  simp only [Bool.and_eq_true] at hc
  have hs := rstop_eq (a := a) (b := b) (c := c) (d := d) (ac := ac) (en := en) (cr := cr) (ex := ex) (t := t) hc.1 hc.2
  simp only [hs]
  unfold tkD tkW tkP
  cases hr : trun a b c d ac en cr ex dn wt t
  · rfl
  · cases hg : tgo wt
    · rw [show decide (IntKind.wrap IntKind.i64 (wt - (1 : Int)) > (0 : Int)) = false from hg]
      cases he : (bif bval a b c d ac en cr ex then IntKind.wrap IntKind.i64 (dn + (1 : Int)) == dom a b c d else false)
      · rfl
      · have := rt_end hr hg hc.2 he
        rw [this]; rfl
    · rw [show decide (IntKind.wrap IntKind.i64 (wt - (1 : Int)) > (0 : Int)) = true from hg]; rfl
noncomputable def tkb_g : List AV → Option (Tr AV)
  | [.ag [.v _ (.int .i64 a), .v _ (.int .i64 b), .v _ (.int .i64 c), .v _ (.int .i64 d), .v _ (.int .i64 ac), .v _ (.int .i64 en), .v _ (.int .i64 cr), .v _ (.int .i64 ex), .v _ (.int .i64 dn), .v _ (.int .i64 wt)], .one (.v _ (.int .i64 t))] => some (.br (inW dn && inW wt) (.ret (.tup [(true, [.v false (.int .i64 (a)), .v false (.int .i64 (b)), .v false (.int .i64 (c)), .v false (.int .i64 (d)), .v false (.int .i64 (ac)), .v false (.int .i64 (en)), .v false (.int .i64 (cr)), .v false (.int .i64 (ex)), .v false (.int .i64 (tkD a b c d ac en cr ex dn wt t)), .v false (.int .i64 (tkW a b c d ac en cr ex dn wt t))]), (true, [.v false (.int .i64 (tkP a b c d ac en cr ex dn wt t a)), .v false (.int .i64 (tkP a b c d ac en cr ex dn wt t b)), .v false (.int .i64 (tkP a b c d ac en cr ex dn wt t c)), .v false (.int .i64 (tkP a b c d ac en cr ex dn wt t d))])])) (.bad 900))
  | _ => none
set_option maxHeartbeats 4000000 in
theorem tkb_ok : FunOK Try.prog 18 tkb_g := by
  refine fun_ok (by kernel_rfl) (puC_S58_ok) (L0_ok _) 9 (On := (opens [])) (fun args t h => ?_)
  unfold tkb_g at h
  split at h
  · rename_i _ a _ b _ c _ d _ ac _ en _ cr _ ex _ dn _ wt _ t
    simp only [Option.some.injEq] at h
    subst h
    refine ⟨[.ag [.v false (.int .i64 a), .v false (.int .i64 b), .v false (.int .i64 c), .v false (.int .i64 d), .v false (.int .i64 ac), .v false (.int .i64 en), .v false (.int .i64 cr), .v false (.int .i64 ex), .v false (.int .i64 dn), .v false (.int .i64 wt)], .one (.v false (.int .i64 t))], rfl, fun fr w us h => h, fun r hr => ?_⟩
    obtain ⟨hc, hr⟩ := br_bad hr
    simp only [Tr.val, Option.some.injEq] at hr
    subst hr
    rw [tkb_tree]
    exact tkb_val a b c d ac en cr ex dn wt t hc
  · cases h
noncomputable def puC_S59 : Sums := addS 18 tkb_g puC_S58
theorem puC_S59_ok : SumOK Try.prog puC_S59 := addS_ok (tkb_ok) (puC_S58_ok)
end Go.Proofs.Ythhfhiggacdneaa
