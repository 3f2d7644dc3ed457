/-
  Layer 45: Duration of both.
-/
import Derived.Test.YtmaeneogjcfdfaaProg
import Derived.Test.YtmaeneogjcfdfaaFvX
import Derived.Test.YtmaeneogjcfdfaaFvZ
import Derived.Test.YtmaeneogjcfdfaaSqr
import Derived.Test.YtmaeneogjcfdfaaRaA
import Derived.Test.YtmaeneogjcfdfaaAut
namespace Go.Proofs.Ytmaeneogjcfdfaa
open Go
def dsum (a b c d ac en cr ex t : Int) : Nat → Int
  | 0 => 0
  | k + 1 => dsum a b c d ac en cr ex t k + ivl (sq a b c d ac en cr ex (k + 1)) t
def durV (a b c d ac en cr ex t : Int) : Int := bif bval a b c d ac en cr ex && (decide (1 ≤ t) && (decide (t ≤ 1048576) && decide (dom a b c d ≤ 65536))) then dsum a b c d ac en cr ex t (dom a b c d).toNat else 0
def durE (a b c d ac en cr ex t : Int) : Int := bif bval a b c d ac en cr ex && (decide (1 ≤ t) && decide (t ≤ 1048576)) then (bif decide (dom a b c d > 65536) then 2 else 0) else 1
theorem ivl_bd {z t : Int} (hz : z ≤ 1099511627776) (h1 : 1 ≤ t) (h2 : t ≤ 1048576) : 0 ≤ ivl z t ∧ ivl z t ≤ 1048576 := by
  by_cases h : 1 ≤ z
  · have := ivl_in h hz h1 h2; omega
  · rw [ivl_out (by rw [decide_eq_false h]; rfl)]; omega
theorem dsum_bd {a b c d ac en cr ex t : Int} (h1 : 1 ≤ t) (h2 : t ≤ 1048576) : ∀ k : Nat, 0 ≤ dsum a b c d ac en cr ex t k ∧ dsum a b c d ac en cr ex t k ≤ 1048576 * k
  | 0 => ⟨Int.le_refl _, Int.le_refl _⟩
  | k + 1 => by
    have := dsum_bd (a := a) (b := b) (c := c) (d := d) (ac := ac) (en := en) (cr := cr) (ex := ex) h1 h2 k
    have := ivl_bd (z := sq a b c d ac en cr ex (k + 1)) (sq_nonneg _ _ _ _ _ _ _ _ _).2.1 h1 h2
    simp only [dsum]
    push_cast
    omega
abbrev rdu_U : Type := Int × Int × Int × Int × Int × Int × Int × Int × Int × Int × Int × Int
abbrev rdu_V : Type := Int × Int
def rdu_St (u : rdu_U) (v : rdu_V) : Stt := ⟨[.one .junk, .one (.v false (.int .i64 u.1)), .one (.p 0 0), .one .junk, .one (.v false (.int .i64 u.2.1)), .one (.v false (.int .i64 u.2.2.1)), .one (.v false (.int .i64 u.2.2.2.1)), .one (.v false (.int .i64 v.1)), .one (.v false (.int .i64 v.2)), .one .junk, .one .junk, .one .junk, .one .junk, .one .junk, .one .junk, .one .junk, .one .junk, .one .junk, .one .junk, .one .junk, .one .junk, .one .junk, .one .junk, .one .junk, .one .junk, .one .junk, .one .junk, .one .junk, .one .junk, .one .junk, .one .junk, .one .junk, .one .junk, .one .junk, .one .junk, .one .junk, .one .junk], [(0, .cells [.v false (.int .i64 u.2.2.2.2.1), .v false (.int .i64 u.2.2.2.2.2.1), .v false (.int .i64 u.2.2.2.2.2.2.1), .v false (.int .i64 u.2.2.2.2.2.2.2.1), .v false (.int .i64 u.2.2.2.2.2.2.2.2.1), .v false (.int .i64 u.2.2.2.2.2.2.2.2.2.1), .v false (.int .i64 u.2.2.2.2.2.2.2.2.2.2.1), .v false (.int .i64 u.2.2.2.2.2.2.2.2.2.2.2)])], 1022⟩
def rdu_step (u : rdu_U) (v : rdu_V) : Tr (rdu_V ⊕ (Nat × rdu_V)) :=
  match u, v with
  | (t, z0, z1, n, a, b, c, d, ac, en, cr, ex), (s, i) => .br (decide (i ≤ n)) (.ret (.inl (IntKind.wrap IntKind.i64 (s + ivl (sq a b c d ac en cr ex i) t), IntKind.wrap IntKind.i64 (i + (1 : Int))))) (.ret (.inr (0, (s, i))))
set_option maxRecDepth 100000 in
set_option maxHeartbeats 4000000 in
theorem rdu_step_eq : ∀ (u : rdu_U) (v : rdu_V), (evalC Try.prog (evalB Try.prog raA_S15 (opens []) L0 7).1 (evalB Try.prog raA_S15 (opens []) L0 7).2 (opens []) (L0 22) 100000 (0 :: [0, 1, 0, 1, 1, 1, 1, 1]) (loopOf (bodyOf Try.prog 22) [1, 1, 1, 1, 1, 0, 1, 0]) (rdu_St u v) []).bind (finF [0, 3, 9, 10, 11, 12, 13, 14, 15, 16, 17, 18, 19, 20, 21, 22, 23, 24, 25, 26, 27, 28, 29, 30, 31, 32, 33, 34, 35, 36] [] [0] [] 1022) = (rdu_step u v).bind (outA (rdu_St u) [.exit 0]) := by
  rintro ⟨t, z0, z1, n, a, b, c, d, ac, en, cr, ex⟩ ⟨s, i⟩
  kernel_rfl
def rdu_rd (b : Bool) (tm : List (Option AV)) (own : Own) : Option (rdu_U × rdu_V) :=
  match b, tm, own with
  | true, [some (.one (.v false (.int .i64 t))), some (.one (.p 0 0)), some (.one (.v false (.int .i64 z0))), some (.one (.v false (.int .i64 z1))), some (.one (.v false (.int .i64 n))), some (.one (.v false (.int .i64 s))), some (.one (.v false (.int .i64 i)))], [(0, .cells [.v false (.int .i64 a), .v false (.int .i64 b), .v false (.int .i64 c), .v false (.int .i64 d), .v false (.int .i64 ac), .v false (.int .i64 en), .v false (.int .i64 cr), .v false (.int .i64 ex)])] => some ((t, z0, z1, n, a, b, c, d, ac, en, cr, ex), (s, i))
  | _, _, _ => none
def rdu_can (st : Stt) : Stt := canA [0, 3, 9, 10, 11, 12, 13, 14, 15, 16, 17, 18, 19, 20, 21, 22, 23, 24, 25, 26, 27, 28, 29, 30, 31, 32, 33, 34, 35, 36] [] [0] [] 1022 st
def rdu_cok (st : Stt) : Bool := canAok [0, 3, 9, 10, 11, 12, 13, 14, 15, 16, 17, 18, 19, 20, 21, 22, 23, 24, 25, 26, 27, 28, 29, 30, 31, 32, 33, 34, 35, 36] [] [0] [] 1022 st
def rdu_read (st : Stt) : Option (rdu_U × rdu_V) := rdu_rd (rdu_cok st && (staysA [] [0] st.own && juAll [0, 3, 9, 10, 11, 12, 13, 14, 15, 16, 17, 18, 19, 20, 21, 22, 23, 24, 25, 26, 27, 28, 29, 30, 31, 32, 33, 34, 35, 36] (rdu_can st).tm 37)) [(rdu_can st).tm[1]?, (rdu_can st).tm[2]?, (rdu_can st).tm[4]?, (rdu_can st).tm[5]?, (rdu_can st).tm[6]?, (rdu_can st).tm[7]?, (rdu_can st).tm[8]?] (rdu_can st).own
set_option maxRecDepth 100000 in
set_option maxHeartbeats 4000000 in
theorem rdu_rd_ok {b : Bool} {tm : List AV} {own : Own} {u : rdu_U} {v : rdu_V} (hj : b = true → juAll [0, 3, 9, 10, 11, 12, 13, 14, 15, 16, 17, 18, 19, 20, 21, 22, 23, 24, 25, 26, 27, 28, 29, 30, 31, 32, 33, 34, 35, 36] tm 37 = true) (h : rdu_rd b [tm[1]?, tm[2]?, tm[4]?, tm[5]?, tm[6]?, tm[7]?, tm[8]?] own = some (u, v)) : b = true ∧ tm = (rdu_St u v).tm ∧ own = (rdu_St u v).own := by
  unfold rdu_rd at h
  split at h
  · rename_i t z0 z1 n s i a b c d ac en cr ex ht
    simp only [List.cons.injEq, and_true] at ht
    cases h
    refine ⟨rfl, (tm_fill (hj rfl) (Lv := [(1, .one (.v false (.int .i64 t))), (2, .one (.p 0 0)), (4, .one (.v false (.int .i64 z0))), (5, .one (.v false (.int .i64 z1))), (6, .one (.v false (.int .i64 n))), (7, .one (.v false (.int .i64 s))), (8, .one (.v false (.int .i64 i)))]) (by kernel_rfl) (by simp only [allGet, ht, and_true])).trans (by kernel_rfl), rfl⟩
  · cases h
theorem rdu_read_ok (st : Stt) (u : rdu_U) (v : rdu_V) (h : rdu_read st = some (u, v)) : rdu_cok st = true ∧ staysA [] [0] st.own = true ∧ rdu_can st = rdu_St u v := by
  obtain ⟨h1, h2, h3⟩ := rdu_rd_ok (fun hb => by rw [Bool.and_eq_true, Bool.and_eq_true] at hb; exact hb.2.2) h
  rw [Bool.and_eq_true, Bool.and_eq_true] at h1
  refine ⟨h1.1, h1.2.1, ?_⟩
  have e : rdu_can st = ⟨(rdu_can st).tm, (rdu_can st).own, 1022⟩ := by kernel_rfl
  rw [e, h2, h3]
  rfl
noncomputable def rdu_cond (u : rdu_U) (v : rdu_V) : Bool := runC (rdu_step u) v
noncomputable def rdu_g (u : rdu_U) (v : rdu_V) : Nat × rdu_V := runG (rdu_step u) v
theorem rdu_hg : ∀ (u : rdu_U) (v : rdu_V), rdu_cond u v = true → loopN (rdu_step u) ((fun u v => runF (rdu_step u) v) u v) v = some (rdu_g u v) := by
  exact fun u v h => run_hg h
noncomputable def rdu_m (st : Stt) : Option (Tr (Ex × Stt)) := sumM rdu_read rdu_cond rdu_St rdu_g [(0, .exit 0)] st
noncomputable def raC_L51 : FuncId → Loops := addL 22 [0, 1, 0, 1, 1, 1, 1, 1] rdu_m L0
set_option maxRecDepth 100000 in
set_option maxHeartbeats 4000000 in
theorem raC_L51_ok : LoopsOK Try.prog raC_L51 :=
  loop_sumF (body := (bodyOf Try.prog 22)) (c := (loopOf (bodyOf Try.prog 22) [1, 1, 1, 1, 1, 0, 1, 0])) (kinds := [.exit 0]) (allow := [(0, .exit 0)]) (St := rdu_St) (step := rdu_step) (W := [0, 3, 9, 10, 11, 12, 13, 14, 15, 16, 17, 18, 19, 20, 21, 22, 23, 24, 25, 26, 27, 28, 29, 30, 31, 32, 33, 34, 35, 36]) (As := []) (ks := [0]) (dd := []) (nx := 1022) (n := 100000) (g := rdu_g) (cond := rdu_cond) (fuel := (fun u v => runF (rdu_step u) v)) (read := rdu_read) (by kernel_rfl) (raA_S15_ok) (L0_ok _) 7 ⟨Try.f22, by kernel_rfl, by kernel_rfl⟩ (by kernel_rfl) (by kernel_rfl) (by kernel_rfl) rdu_step_eq rdu_hg rdu_read_ok
theorem rdu_run {a b c d ac en cr ex t : Int} {z0 z1 n : Int} (hb : bval a b c d ac en cr ex = true) (h1 : 1 ≤ t) (h2 : t ≤ 1048576) (hn : n = dom a b c d) (hn2 : n ≤ 65536) : rdu_cond (t, z0, z1, n, a, b, c, d, ac, en, cr, ex) (0, 1) = true ∧ (rdu_g (t, z0, z1, n, a, b, c, d, ac, en, cr, ex) (0, 1)).1 = 0 ∧ (rdu_g (t, z0, z1, n, a, b, c, d, ac, en, cr, ex) (0, 1)).2.1 = dsum a b c d ac en cr ex t n.toNat := by
  have hn0 := (dom_in a b c d).1
  refine run_inv (step := rdu_step (t, z0, z1, n, a, b, c, d, ac, en, cr, ex)) (Inv := fun v => ∃ k : Nat, v.2 = k + 1 ∧ v.1 = dsum a b c d ac en cr ex t k ∧ (k : Int) ≤ n) (μ := fun v => (n + 1 - v.2).toNat) (Q := fun r => r.1 = 0 ∧ r.2.1 = dsum a b c d ac en cr ex t n.toNat) ?_ (0, 1) ⟨0, rfl, rfl, by omega⟩
  rintro ⟨s, i⟩ ⟨k, hi, hs, hk⟩
  dsimp only at hi hs
  subst hi hs
  unfold rdu_step
  dsimp only
  simp only [Tr.all]
  have B := dsum_bd (a := a) (b := b) (c := c) (d := d) (ac := ac) (en := en) (cr := cr) (ex := ex) h1 h2 k
  have I := ivl_bd (z := sq a b c d ac en cr ex (k + 1)) (sq_nonneg _ _ _ _ _ _ _ _ _).2.1 h1 h2
  refine ⟨fun c1 => ?_, fun c1 => ?_⟩
  · simp at c1
    have e1 : IntKind.i64.wrap (dsum a b c d ac en cr ex t k + ivl (sq a b c d ac en cr ex (k + 1)) t) = dsum a b c d ac en cr ex t k + ivl (sq a b c d ac en cr ex (k + 1)) t := IntWalk.i64_in _ ⟨by omega, by omega⟩
    have e2 : IntKind.i64.wrap ((k : Int) + 1 + 1) = k + 1 + 1 := IntWalk.i64_in _ ⟨by omega, by omega⟩
    refine ⟨⟨k + 1, ?_, ?_, by omega⟩, ?_⟩
    · rw [e2]; push_cast; rfl
    · simp only [e1, dsum]
    · simp only [e2]; omega
  · simp at c1
    have : (k : Int) = n := by omega
    subst this
    exact ⟨by simp, by simp⟩
set_option maxRecDepth 100000 in
theorem rdr_tree (a : Int) (b : Int) (c : Int) (d : Int) (ac : Int) (en : Int) (cr : Int) (ex : Int) (t : Int) : evalF Try.prog raA_S15 (opens []) raC_L51 9 22 [.ag [.v false (.int .i64 a), .v false (.int .i64 b), .v false (.int .i64 c), .v false (.int .i64 d), .v false (.int .i64 ac), .v false (.int .i64 en), .v false (.int .i64 cr), .v false (.int .i64 ex)], .one (.v false (.int .i64 t))] = .br ((bif bif bif !bval a b c d ac en cr ex then true else decide (t < (1 : Int)) then true else decide (t > (1048576 : Int)) then true else (bif decide (dom a b c d > (65536 : Int)) then true else ((rdu_cond (t, (0 : Int), (0 : Int), dom a b c d, a, b, c, d, ac, en, cr, ex) ((0 : Int), (1 : Int))) && (Nat.beq (Prod.fst (rdu_g (t, (0 : Int), (0 : Int), dom a b c d, a, b, c, d, ac, en, cr, ex) ((0 : Int), (1 : Int)))) (0 : Nat)))))) (.ret (.tup [(false, [.v false (.int .i64 (bif bif bif !bval a b c d ac en cr ex then true else decide (t < (1 : Int)) then true else decide (t > (1048576 : Int)) then (0 : Int) else bif decide (dom a b c d > (65536 : Int)) then (0 : Int) else Prod.fst (Prod.snd (rdu_g (t, (0 : Int), (0 : Int), dom a b c d, a, b, c, d, ac, en, cr, ex) ((0 : Int), (1 : Int))))))]), (false, [.v false (.int .i64 (bif bif bif !bval a b c d ac en cr ex then true else decide (t < (1 : Int)) then true else decide (t > (1048576 : Int)) then (1 : Int) else bif decide (dom a b c d > (65536 : Int)) then (2 : Int) else (0 : Int)))])])) (.bad 116) := by kernel_rfl
set_option maxHeartbeats 4000000 in
theorem rdr_val (a : Int) (b : Int) (c : Int) (d : Int) (ac : Int) (en : Int) (cr : Int) (ex : Int) (t : Int) : (.br ((bif bif bif !bval a b c d ac en cr ex then true else decide (t < (1 : Int)) then true else decide (t > (1048576 : Int)) then true else (bif decide (dom a b c d > (65536 : Int)) then true else ((rdu_cond (t, (0 : Int), (0 : Int), dom a b c d, a, b, c, d, ac, en, cr, ex) ((0 : Int), (1 : Int))) && (Nat.beq (Prod.fst (rdu_g (t, (0 : Int), (0 : Int), dom a b c d, a, b, c, d, ac, en, cr, ex) ((0 : Int), (1 : Int)))) (0 : Nat)))))) (.ret (.tup [(false, [.v false (.int .i64 (bif bif bif !bval a b c d ac en cr ex then true else decide (t < (1 : Int)) then true else decide (t > (1048576 : Int)) then (0 : Int) else bif decide (dom a b c d > (65536 : Int)) then (0 : Int) else Prod.fst (Prod.snd (rdu_g (t, (0 : Int), (0 : Int), dom a b c d, a, b, c, d, ac, en, cr, ex) ((0 : Int), (1 : Int))))))]), (false, [.v false (.int .i64 (bif bif bif !bval a b c d ac en cr ex then true else decide (t < (1 : Int)) then true else decide (t > (1048576 : Int)) then (1 : Int) else bif decide (dom a b c d > (65536 : Int)) then (2 : Int) else (0 : Int)))])])) (.bad 116) : Tr AV).val = some (.tup [(false, [.v false (.int .i64 (durV a b c d ac en cr ex t))]), (false, [.v false (.int .i64 (durE a b c d ac en cr ex t))])]) := by
  show cond _ _ _ = _
  cases hb : bval a b c d ac en cr ex
  · simp only [durV, durE, hb, Bool.not_false, cond_true, cond_false, Bool.false_and]; rfl
  · by_cases h1 : t < 1
    · have h1' : ¬ (1 ≤ t) := by omega
      simp [durV, durE, hb, h1, h1', Tr.val]
    · by_cases h2 : t > 1048576
      · have h2' : ¬ (t ≤ 1048576) := by omega
        have h2'' : 1048576 < t := by omega
        have k1 : 1 ≤ t := by omega
        simp [durV, durE, hb, h1, h2', h2'', k1, Tr.val]
      · by_cases h3 : dom a b c d > 65536
        · have h3' : ¬ (dom a b c d ≤ 65536) := by omega
          have h3'' : 65536 < dom a b c d := by omega
          have h1' : 1 ≤ t := by omega
          have h2' : t ≤ 1048576 := by omega
          have k2 : ¬ (1048576 < t) := by omega
          simp [durV, durE, hb, h1, h1', h2', h3', h3'', k2, Tr.val]
        · have h3' : dom a b c d ≤ 65536 := by omega
          have h1' : 1 ≤ t := by omega
          have h2' : t ≤ 1048576 := by omega
          obtain ⟨r1, r2, r3⟩ := rdu_run (z0 := 0) (z1 := 0) hb h1' h2' rfl h3'
          have k2 : ¬ (1048576 < t) := by omega
          have k3 : ¬ (65536 < dom a b c d) := by omega
          simp [durV, durE, hb, h1, h1', h2', h3', r1, r2, r3, k2, k3, Tr.val]
def rdr_g : List AV → Option (Tr AV)
  | [.ag [.v _ (.int .i64 a), .v _ (.int .i64 b), .v _ (.int .i64 c), .v _ (.int .i64 d), .v _ (.int .i64 ac), .v _ (.int .i64 en), .v _ (.int .i64 cr), .v _ (.int .i64 ex)], .one (.v _ (.int .i64 t))] => some (.ret (.tup [(false, [.v false (.int .i64 (durV a b c d ac en cr ex t))]), (false, [.v false (.int .i64 (durE a b c d ac en cr ex t))])]))
  | _ => none
theorem rdr_ok : FunOK Try.prog 22 rdr_g := by
  refine fun_ok (by kernel_rfl) (raA_S15_ok) (raC_L51_ok) 9 (On := (opens [])) (fun args t h => ?_)
  unfold rdr_g at h
  split at h
  · rename_i _ a _ b _ c _ d _ ac _ en _ cr _ ex _ t
    simp only [Option.some.injEq] at h
    subst h
    refine ⟨[.ag [.v false (.int .i64 a), .v false (.int .i64 b), .v false (.int .i64 c), .v false (.int .i64 d), .v false (.int .i64 ac), .v false (.int .i64 en), .v false (.int .i64 cr), .v false (.int .i64 ex)], .one (.v false (.int .i64 t))], rfl, fun fr w us h => h, fun r hr => ?_⟩
    simp only [Tr.val, Option.some.injEq] at hr
    subst hr
    rw [rdr_tree]
    exact rdr_val a b c d ac en cr ex t
  · cases h
def raC_S52 : Sums := addS 22 rdr_g raA_S15
theorem raC_S52_ok : SumOK Try.prog raC_S52 := addS_ok (rdr_ok) (raA_S15_ok)
set_option maxRecDepth 100000 in
theorem intv_tree (z : Int) (t : Int) : evalF Try.prog raC_S52 (opens []) raC_L51 9 41 [.one (.v false (.int .i64 z)), .one (.v false (.int .i64 t))] = .br (((decide ((-9223372036854775808 : Int) ≤ z) && decide (z ≤ (9223372036854775807 : Int))) && (Prod.fst (rt z) != (0 : Int)))) (.ret (.one (.v false (.int .i64 (IntKind.wrap IntKind.i64 (Int.tdiv (IntKind.wrap IntKind.i64 (IntKind.wrap IntKind.i64 (t + Prod.fst (rt z)) - (1 : Int))) (Prod.fst (rt z)))))))) (.bad 116) := by kernel_rfl
theorem intv_val (z : Int) (t : Int) (hc : (decide (1 ≤ z) && decide (z ≤ 1099511627776) && decide (1 ≤ t) && decide (t ≤ 1048576)) = true) : (.br (((decide ((-9223372036854775808 : Int) ≤ z) && decide (z ≤ (9223372036854775807 : Int))) && (Prod.fst (rt z) != (0 : Int)))) (.ret (.one (.v false (.int .i64 (IntKind.wrap IntKind.i64 (Int.tdiv (IntKind.wrap IntKind.i64 (IntKind.wrap IntKind.i64 (t + Prod.fst (rt z)) - (1 : Int))) (Prod.fst (rt z)))))))) (.bad 116) : Tr AV).val = some (.one (.v false (.int .i64 (ivl z t)))) := by
  simp only [Bool.and_eq_true, decide_eq_true_eq] at hc
  obtain ⟨o1, o2, o3⟩ := ivl_raw (z := z) (t := t) ⟨by omega, by omega⟩ (by simp; omega)
  show cond _ _ _ = _
  simp only [o1, o2, o3, Bool.and_self, cond_true, Tr.val]
def intv_g : List AV → Option (Tr AV)
  | [.one (.v _ (.int .i64 z)), .one (.v _ (.int .i64 t))] => some (.br (decide (1 ≤ z) && decide (z ≤ 1099511627776) && decide (1 ≤ t) && decide (t ≤ 1048576)) (.ret (.one (.v false (.int .i64 (ivl z t))))) (.bad 900))
  | _ => none
theorem intv_ok : FunOK Try.prog 41 intv_g := by
  refine fun_ok (by kernel_rfl) (raC_S52_ok) (raC_L51_ok) 9 (On := (opens [])) (fun args t h => ?_)
  unfold intv_g at h
  split at h
  · rename_i _ z _ t
    simp only [Option.some.injEq] at h
    subst h
    refine ⟨[.one (.v false (.int .i64 z)), .one (.v false (.int .i64 t))], rfl, fun fr w us h => h, fun r hr => ?_⟩
    obtain ⟨hc, hr⟩ := br_bad hr
    simp only [Tr.val, Option.some.injEq] at hr
    subst hr
    rw [intv_tree]
    exact intv_val z t hc
  · cases h
def raC_S53 : Sums := addS 41 intv_g raC_S52
theorem raC_S53_ok : SumOK Try.prog raC_S53 := addS_ok (intv_ok) (raC_S52_ok)
theorem sq_raw2 {a b c d ac en cr ex i : Int} (hb : bval a b c d ac en cr ex = true) (h1 : 1 ≤ i) (h2 : i ≤ dom a b c d) : (if IntKind.wrap IntKind.i64 (ex + IntKind.wrap IntKind.i64 (IntKind.wrap IntKind.i64 ((2 : Int) * ac) * IntKind.wrap IntKind.i64 (IntKind.wrap IntKind.i64 (dom a b c d + (1 : Int)) - i))) < if IntKind.wrap IntKind.i64 (en + IntKind.wrap IntKind.i64 (IntKind.wrap IntKind.i64 ((2 : Int) * ac) * i)) < cr then IntKind.wrap IntKind.i64 (en + IntKind.wrap IntKind.i64 (IntKind.wrap IntKind.i64 ((2 : Int) * ac) * i)) else cr then IntKind.wrap IntKind.i64 (ex + IntKind.wrap IntKind.i64 (IntKind.wrap IntKind.i64 ((2 : Int) * ac) * IntKind.wrap IntKind.i64 (IntKind.wrap IntKind.i64 (dom a b c d + (1 : Int)) - i))) else if IntKind.wrap IntKind.i64 (en + IntKind.wrap IntKind.i64 (IntKind.wrap IntKind.i64 ((2 : Int) * ac) * i)) < cr then IntKind.wrap IntKind.i64 (en + IntKind.wrap IntKind.i64 (IntKind.wrap IntKind.i64 ((2 : Int) * ac) * i)) else cr) = sq a b c d ac en cr ex i := by
  have t : (bif bif !bval a b c d ac en cr ex then true else decide (i < (1 : Int)) then true else decide (i > dom a b c d)) = false := by
    rw [hb]; simp; omega
  have := sq_raw (a := a) (b := b) (c := c) (d := d) (ac := ac) (en := en) (cr := cr) (ex := ex) (i := i)
  rw [t, cond_false] at this
  exact this
abbrev pdu_U : Type := Int × Int × Int × Int × Int × Int × Int × Int × Int × Int × Int × Int × Int × Int × Int × Int × Int × Int × Int × Int × Int
abbrev pdu_V : Type := Int × Int
def pdu_St (u : pdu_U) (v : pdu_V) : Stt := ⟨[.one .junk, .one (.v false (.int .i64 u.1)), .one .junk, .one .junk, .one (.v false (.int .i64 u.2.1)), .one (.v false (.int .i64 u.2.2.1)), .one .junk, .one (.fn 53 [((19000 : Nat), (0 : Nat)), ((19005 : Nat), (0 : Nat))]), .one (.v false (.int .i64 v.1)), .one .junk, .one .junk, .one .junk, .one .junk, .one .junk, .one .junk, .one .junk, .one .junk, .one .junk, .one .junk, .one .junk, .one .junk, .one .junk, .one .junk, .one .junk, .one .junk, .one (.v false (.int .i64 u.2.2.2.1)), .one (.v false (.int .i64 v.2)), .one .junk, .one .junk, .one .junk, .one .junk, .one .junk, .one .junk, .one .junk, .one .junk, .one .junk, .one .junk, .one .junk, .one .junk], [(19005, .cells [.v false (.int .i64 u.2.2.2.2.1)]), (19000, .cells [.v false (.int .i64 u.2.2.2.2.2.1), .v false (.int .i64 u.2.2.2.2.2.2.1), .v false (.int .i64 u.2.2.2.2.2.2.2.1), .v false (.int .i64 u.2.2.2.2.2.2.2.2.1), .v false (.int .i64 u.2.2.2.2.2.2.2.2.2.1), .v false (.int .i64 u.2.2.2.2.2.2.2.2.2.2.1), .v false (.int .i64 u.2.2.2.2.2.2.2.2.2.2.2.1), .v false (.int .i64 u.2.2.2.2.2.2.2.2.2.2.2.2.1)]), (0, .cells [.v false (.int .i64 u.2.2.2.2.2.2.2.2.2.2.2.2.2.1), .v false (.int .i64 u.2.2.2.2.2.2.2.2.2.2.2.2.2.2.1), .v false (.int .i64 u.2.2.2.2.2.2.2.2.2.2.2.2.2.2.2.1), .v false (.int .i64 u.2.2.2.2.2.2.2.2.2.2.2.2.2.2.2.2.1), .v false (.int .i64 u.2.2.2.2.2.2.2.2.2.2.2.2.2.2.2.2.2.1), .v false (.int .i64 u.2.2.2.2.2.2.2.2.2.2.2.2.2.2.2.2.2.2.1), .v false (.int .i64 u.2.2.2.2.2.2.2.2.2.2.2.2.2.2.2.2.2.2.2.1), .v false (.int .i64 u.2.2.2.2.2.2.2.2.2.2.2.2.2.2.2.2.2.2.2.2)])], 1023⟩
def pdu_step (u : pdu_U) (v : pdu_V) : Tr (pdu_V ⊕ (Nat × pdu_V)) :=
  match u, v with
  | (t, z0, z1, n, m, a, b, c, d, ac, en, cr, ex, y0, y1, y2, y3, y4, y5, y6, y7), (s, i) => .br (decide (i < n)) (.br (decide ((1 : Int) ≤ if IntKind.wrap IntKind.i64 (ex + IntKind.wrap IntKind.i64 (IntKind.wrap IntKind.i64 ((2 : Int) * ac) * IntKind.wrap IntKind.i64 (IntKind.wrap IntKind.i64 (m + (1 : Int)) - IntKind.wrap IntKind.i64 (i + (1 : Int))))) < if IntKind.wrap IntKind.i64 (en + IntKind.wrap IntKind.i64 (IntKind.wrap IntKind.i64 ((2 : Int) * ac) * IntKind.wrap IntKind.i64 (i + (1 : Int)))) < cr then IntKind.wrap IntKind.i64 (en + IntKind.wrap IntKind.i64 (IntKind.wrap IntKind.i64 ((2 : Int) * ac) * IntKind.wrap IntKind.i64 (i + (1 : Int)))) else cr then IntKind.wrap IntKind.i64 (ex + IntKind.wrap IntKind.i64 (IntKind.wrap IntKind.i64 ((2 : Int) * ac) * IntKind.wrap IntKind.i64 (IntKind.wrap IntKind.i64 (m + (1 : Int)) - IntKind.wrap IntKind.i64 (i + (1 : Int))))) else if IntKind.wrap IntKind.i64 (en + IntKind.wrap IntKind.i64 (IntKind.wrap IntKind.i64 ((2 : Int) * ac) * IntKind.wrap IntKind.i64 (i + (1 : Int)))) < cr then IntKind.wrap IntKind.i64 (en + IntKind.wrap IntKind.i64 (IntKind.wrap IntKind.i64 ((2 : Int) * ac) * IntKind.wrap IntKind.i64 (i + (1 : Int)))) else cr) && decide ((if IntKind.wrap IntKind.i64 (ex + IntKind.wrap IntKind.i64 (IntKind.wrap IntKind.i64 ((2 : Int) * ac) * IntKind.wrap IntKind.i64 (IntKind.wrap IntKind.i64 (m + (1 : Int)) - IntKind.wrap IntKind.i64 (i + (1 : Int))))) < if IntKind.wrap IntKind.i64 (en + IntKind.wrap IntKind.i64 (IntKind.wrap IntKind.i64 ((2 : Int) * ac) * IntKind.wrap IntKind.i64 (i + (1 : Int)))) < cr then IntKind.wrap IntKind.i64 (en + IntKind.wrap IntKind.i64 (IntKind.wrap IntKind.i64 ((2 : Int) * ac) * IntKind.wrap IntKind.i64 (i + (1 : Int)))) else cr then IntKind.wrap IntKind.i64 (ex + IntKind.wrap IntKind.i64 (IntKind.wrap IntKind.i64 ((2 : Int) * ac) * IntKind.wrap IntKind.i64 (IntKind.wrap IntKind.i64 (m + (1 : Int)) - IntKind.wrap IntKind.i64 (i + (1 : Int))))) else if IntKind.wrap IntKind.i64 (en + IntKind.wrap IntKind.i64 (IntKind.wrap IntKind.i64 ((2 : Int) * ac) * IntKind.wrap IntKind.i64 (i + (1 : Int)))) < cr then IntKind.wrap IntKind.i64 (en + IntKind.wrap IntKind.i64 (IntKind.wrap IntKind.i64 ((2 : Int) * ac) * IntKind.wrap IntKind.i64 (i + (1 : Int)))) else cr) ≤ (1099511627776 : Int)) && decide ((1 : Int) ≤ t) && decide (t ≤ (1048576 : Int))) (.ret (.inl (IntKind.wrap IntKind.i64 (s + ivl (if IntKind.wrap IntKind.i64 (ex + IntKind.wrap IntKind.i64 (IntKind.wrap IntKind.i64 ((2 : Int) * ac) * IntKind.wrap IntKind.i64 (IntKind.wrap IntKind.i64 (m + (1 : Int)) - IntKind.wrap IntKind.i64 (i + (1 : Int))))) < if IntKind.wrap IntKind.i64 (en + IntKind.wrap IntKind.i64 (IntKind.wrap IntKind.i64 ((2 : Int) * ac) * IntKind.wrap IntKind.i64 (i + (1 : Int)))) < cr then IntKind.wrap IntKind.i64 (en + IntKind.wrap IntKind.i64 (IntKind.wrap IntKind.i64 ((2 : Int) * ac) * IntKind.wrap IntKind.i64 (i + (1 : Int)))) else cr then IntKind.wrap IntKind.i64 (ex + IntKind.wrap IntKind.i64 (IntKind.wrap IntKind.i64 ((2 : Int) * ac) * IntKind.wrap IntKind.i64 (IntKind.wrap IntKind.i64 (m + (1 : Int)) - IntKind.wrap IntKind.i64 (i + (1 : Int))))) else if IntKind.wrap IntKind.i64 (en + IntKind.wrap IntKind.i64 (IntKind.wrap IntKind.i64 ((2 : Int) * ac) * IntKind.wrap IntKind.i64 (i + (1 : Int)))) < cr then IntKind.wrap IntKind.i64 (en + IntKind.wrap IntKind.i64 (IntKind.wrap IntKind.i64 ((2 : Int) * ac) * IntKind.wrap IntKind.i64 (i + (1 : Int)))) else cr) t), IntKind.wrap IntKind.i64 (i + (1 : Int))))) (.bad 900)) (.ret (.inr (0, (s, i))))
set_option maxRecDepth 100000 in
set_option maxHeartbeats 4000000 in
theorem pdu_step_eq : ∀ (u : pdu_U) (v : pdu_V), (evalC Try.prog (evalB Try.prog raC_S53 (opens [38]) raC_L51 7).1 (evalB Try.prog raC_S53 (opens [38]) raC_L51 7).2 (opens [38]) (raC_L51 21) 100000 (0 :: [0, 1, 0, 1, 1, 1, 1, 1]) (loopOf (bodyOf Try.prog 21) [1, 1, 1, 1, 1, 0, 1, 0]) (pdu_St u v) []).bind (finF [0, 2, 3, 6, 9, 10, 11, 12, 13, 14, 15, 16, 17, 18, 19, 20, 21, 22, 23, 24, 27, 28, 29, 30, 31, 32, 33, 34, 35, 36, 37, 38] [] [19005, 19000, 0] [] 1023) = (pdu_step u v).bind (outA (pdu_St u) [.exit 0]) := by
  rintro ⟨t, z0, z1, n, m, a, b, c, d, ac, en, cr, ex, y0, y1, y2, y3, y4, y5, y6, y7⟩ ⟨s, i⟩
  kernel_rfl
def pdu_rd (b : Bool) (tm : List (Option AV)) (own : Own) : Option (pdu_U × pdu_V) :=
  match b, tm, own with
  | true, [some (.one (.v false (.int .i64 t))), some (.one (.v false (.int .i64 z0))), some (.one (.v false (.int .i64 z1))), some (.one (.fn 53 [((19000 : Nat), (0 : Nat)), ((19005 : Nat), (0 : Nat))])), some (.one (.v false (.int .i64 s))), some (.one (.v false (.int .i64 n))), some (.one (.v false (.int .i64 i)))], [(19005, .cells [.v false (.int .i64 m)]), (19000, .cells [.v false (.int .i64 a), .v false (.int .i64 b), .v false (.int .i64 c), .v false (.int .i64 d), .v false (.int .i64 ac), .v false (.int .i64 en), .v false (.int .i64 cr), .v false (.int .i64 ex)]), (0, .cells [.v false (.int .i64 y0), .v false (.int .i64 y1), .v false (.int .i64 y2), .v false (.int .i64 y3), .v false (.int .i64 y4), .v false (.int .i64 y5), .v false (.int .i64 y6), .v false (.int .i64 y7)])] => some ((t, z0, z1, n, m, a, b, c, d, ac, en, cr, ex, y0, y1, y2, y3, y4, y5, y6, y7), (s, i))
  | _, _, _ => none
def pdu_can (st : Stt) : Stt := canA [0, 2, 3, 6, 9, 10, 11, 12, 13, 14, 15, 16, 17, 18, 19, 20, 21, 22, 23, 24, 27, 28, 29, 30, 31, 32, 33, 34, 35, 36, 37, 38] [] [19005, 19000, 0] [] 1023 st
def pdu_cok (st : Stt) : Bool := canAok [0, 2, 3, 6, 9, 10, 11, 12, 13, 14, 15, 16, 17, 18, 19, 20, 21, 22, 23, 24, 27, 28, 29, 30, 31, 32, 33, 34, 35, 36, 37, 38] [] [19005, 19000, 0] [] 1023 st
def pdu_read (st : Stt) : Option (pdu_U × pdu_V) := pdu_rd (pdu_cok st && (staysA [] [19005, 19000, 0] st.own && juAll [0, 2, 3, 6, 9, 10, 11, 12, 13, 14, 15, 16, 17, 18, 19, 20, 21, 22, 23, 24, 27, 28, 29, 30, 31, 32, 33, 34, 35, 36, 37, 38] (pdu_can st).tm 39)) [(pdu_can st).tm[1]?, (pdu_can st).tm[4]?, (pdu_can st).tm[5]?, (pdu_can st).tm[7]?, (pdu_can st).tm[8]?, (pdu_can st).tm[25]?, (pdu_can st).tm[26]?] (pdu_can st).own
set_option maxRecDepth 100000 in
set_option maxHeartbeats 4000000 in
theorem pdu_rd_ok {b : Bool} {tm : List AV} {own : Own} {u : pdu_U} {v : pdu_V} (hj : b = true → juAll [0, 2, 3, 6, 9, 10, 11, 12, 13, 14, 15, 16, 17, 18, 19, 20, 21, 22, 23, 24, 27, 28, 29, 30, 31, 32, 33, 34, 35, 36, 37, 38] tm 39 = true) (h : pdu_rd b [tm[1]?, tm[4]?, tm[5]?, tm[7]?, tm[8]?, tm[25]?, tm[26]?] own = some (u, v)) : b = true ∧ tm = (pdu_St u v).tm ∧ own = (pdu_St u v).own := by
  unfold pdu_rd at h
  split at h
  · rename_i t z0 z1 s n i m a b c d ac en cr ex y0 y1 y2 y3 y4 y5 y6 y7 ht
    simp only [List.cons.injEq, and_true] at ht
    cases h
    refine ⟨rfl, (tm_fill (hj rfl) (Lv := [(1, .one (.v false (.int .i64 t))), (4, .one (.v false (.int .i64 z0))), (5, .one (.v false (.int .i64 z1))), (7, .one (.fn 53 [((19000 : Nat), (0 : Nat)), ((19005 : Nat), (0 : Nat))])), (8, .one (.v false (.int .i64 s))), (25, .one (.v false (.int .i64 n))), (26, .one (.v false (.int .i64 i)))]) (by kernel_rfl) (by simp only [allGet, ht, and_true])).trans (by kernel_rfl), rfl⟩
  · cases h
theorem pdu_read_ok (st : Stt) (u : pdu_U) (v : pdu_V) (h : pdu_read st = some (u, v)) : pdu_cok st = true ∧ staysA [] [19005, 19000, 0] st.own = true ∧ pdu_can st = pdu_St u v := by
  obtain ⟨h1, h2, h3⟩ := pdu_rd_ok (fun hb => by rw [Bool.and_eq_true, Bool.and_eq_true] at hb; exact hb.2.2) h
  rw [Bool.and_eq_true, Bool.and_eq_true] at h1
  refine ⟨h1.1, h1.2.1, ?_⟩
  have e : pdu_can st = ⟨(pdu_can st).tm, (pdu_can st).own, 1023⟩ := by kernel_rfl
  rw [e, h2, h3]
  rfl
noncomputable def pdu_cond (u : pdu_U) (v : pdu_V) : Bool := runC (pdu_step u) v
noncomputable def pdu_g (u : pdu_U) (v : pdu_V) : Nat × pdu_V := runG (pdu_step u) v
theorem pdu_hg : ∀ (u : pdu_U) (v : pdu_V), pdu_cond u v = true → loopN (pdu_step u) ((fun u v => runF (pdu_step u) v) u v) v = some (pdu_g u v) := by
  exact fun u v h => run_hg h
noncomputable def pdu_m (st : Stt) : Option (Tr (Ex × Stt)) := sumM pdu_read pdu_cond pdu_St pdu_g [(0, .exit 0)] st
noncomputable def raC_L54 : FuncId → Loops := addL 21 [0, 1, 0, 1, 1, 1, 1, 1] pdu_m raC_L51
set_option maxRecDepth 100000 in
set_option maxHeartbeats 4000000 in
theorem raC_L54_ok : LoopsOK Try.prog raC_L54 :=
  loop_sumF (body := (bodyOf Try.prog 21)) (c := (loopOf (bodyOf Try.prog 21) [1, 1, 1, 1, 1, 0, 1, 0])) (kinds := [.exit 0]) (allow := [(0, .exit 0)]) (St := pdu_St) (step := pdu_step) (W := [0, 2, 3, 6, 9, 10, 11, 12, 13, 14, 15, 16, 17, 18, 19, 20, 21, 22, 23, 24, 27, 28, 29, 30, 31, 32, 33, 34, 35, 36, 37, 38]) (As := []) (ks := [19005, 19000, 0]) (dd := []) (nx := 1023) (n := 100000) (g := pdu_g) (cond := pdu_cond) (fuel := (fun u v => runF (pdu_step u) v)) (read := pdu_read) (by kernel_rfl) (raC_S53_ok) (raC_L51_ok) 7 ⟨Try.f21, by kernel_rfl, by kernel_rfl⟩ (by kernel_rfl) (by kernel_rfl) (by kernel_rfl) pdu_step_eq pdu_hg pdu_read_ok
theorem pdu_run {a b c d ac en cr ex t : Int} {z0 z1 n y0 y1 y2 y3 y4 y5 y6 y7 : Int} (hb : bval a b c d ac en cr ex = true) (h1 : 1 ≤ t) (h2 : t ≤ 1048576) (hn : n = dom a b c d) (hn2 : n ≤ 65536) : pdu_cond (t, z0, z1, n, dom a b c d, a, b, c, d, ac, en, cr, ex, y0, y1, y2, y3, y4, y5, y6, y7) (0, 0) = true ∧ (pdu_g (t, z0, z1, n, dom a b c d, a, b, c, d, ac, en, cr, ex, y0, y1, y2, y3, y4, y5, y6, y7) (0, 0)).1 = 0 ∧ (pdu_g (t, z0, z1, n, dom a b c d, a, b, c, d, ac, en, cr, ex, y0, y1, y2, y3, y4, y5, y6, y7) (0, 0)).2.1 = dsum a b c d ac en cr ex t n.toNat := by
  have hn0 := (dom_in a b c d).1
  have hv := bv_iff.1 hb
  refine run_inv (step := pdu_step (t, z0, z1, n, dom a b c d, a, b, c, d, ac, en, cr, ex, y0, y1, y2, y3, y4, y5, y6, y7)) (Inv := fun v => ∃ k : Nat, v.2 = k ∧ v.1 = dsum a b c d ac en cr ex t k ∧ (k : Int) ≤ n) (μ := fun v => (n - v.2).toNat) (Q := fun r => r.1 = 0 ∧ r.2.1 = dsum a b c d ac en cr ex t n.toNat) ?_ (0, 0) ⟨0, rfl, rfl, by omega⟩
  rintro ⟨s, i⟩ ⟨k, hi, hs, hk⟩
  dsimp only at hi hs
  subst hi hs
  unfold pdu_step
  dsimp only
  have B := dsum_bd (a := a) (b := b) (c := c) (d := d) (ac := ac) (en := en) (cr := cr) (ex := ex) h1 h2 k
  have I := ivl_bd (z := sq a b c d ac en cr ex (k + 1)) (sq_nonneg _ _ _ _ _ _ _ _ _).2.1 h1 h2
  by_cases hkn : (k : Int) < n
  · have e2 : IntKind.i64.wrap ((k : Int) + 1) = k + 1 := IntWalk.i64_in _ ⟨by omega, by omega⟩
    have q := sq_raw2 (i := (k : Int) + 1) hb (by omega) (by omega)
    have q2 := sq_in (i := (k : Int) + 1) hb (by omega) (by omega)
    rw [e2, q]
    have e1 : IntKind.i64.wrap (dsum a b c d ac en cr ex t k + ivl (sq a b c d ac en cr ex (k + 1)) t) = dsum a b c d ac en cr ex t k + ivl (sq a b c d ac en cr ex (k + 1)) t := IntWalk.i64_in _ ⟨by omega, by omega⟩
    rw [e1]
    simp only [Tr.all]
    refine ⟨fun c1 => ⟨fun c2 => ⟨⟨k + 1, by push_cast; rfl, by simp only [dsum], by omega⟩, by omega⟩, fun c2 => ?_⟩, fun c1 => ?_⟩
    · simp at c2; omega
    · simp at c1; omega
  · simp only [Tr.all]
    refine ⟨fun c1 => ?_, fun c1 => ?_⟩
    · simp at c1; omega
    · have : (k : Int) = n := by omega
      subst this
      exact ⟨by simp, by simp⟩
set_option maxRecDepth 100000 in
theorem pdr_tree (a : Int) (b : Int) (c : Int) (d : Int) (ac : Int) (en : Int) (cr : Int) (ex : Int) (t : Int) : evalF Try.prog raC_S53 (opens [38]) raC_L54 9 21 [.ag [.v false (.int .i64 a), .v false (.int .i64 b), .v false (.int .i64 c), .v false (.int .i64 d), .v false (.int .i64 ac), .v false (.int .i64 en), .v false (.int .i64 cr), .v false (.int .i64 ex)], .one (.v false (.int .i64 t))] = .br ((bif bif !bval a b c d ac en cr ex then true else !bif decide (t ≥ (1 : Int)) then decide (t ≤ (1048576 : Int)) else false then true else (bif decide (dom a b c d > (65536 : Int)) then true else ((pdu_cond (t, (0 : Int), (0 : Int), dom a b c d, dom a b c d, a, b, c, d, ac, en, cr, ex, a, b, c, d, ac, en, cr, ex) ((0 : Int), (0 : Int))) && (Nat.beq (Prod.fst (pdu_g (t, (0 : Int), (0 : Int), dom a b c d, dom a b c d, a, b, c, d, ac, en, cr, ex, a, b, c, d, ac, en, cr, ex) ((0 : Int), (0 : Int)))) (0 : Nat)))))) (.ret (.tup [(false, [.v false (.int .i64 (bif bif !bval a b c d ac en cr ex then true else !bif decide (t ≥ (1 : Int)) then decide (t ≤ (1048576 : Int)) else false then (0 : Int) else bif decide (dom a b c d > (65536 : Int)) then (0 : Int) else Prod.fst (Prod.snd (pdu_g (t, (0 : Int), (0 : Int), dom a b c d, dom a b c d, a, b, c, d, ac, en, cr, ex, a, b, c, d, ac, en, cr, ex) ((0 : Int), (0 : Int))))))]), (false, [.v false (.int .i64 (bif bif !bval a b c d ac en cr ex then true else !bif decide (t ≥ (1 : Int)) then decide (t ≤ (1048576 : Int)) else false then (1 : Int) else bif decide (dom a b c d > (65536 : Int)) then (2 : Int) else (0 : Int)))])])) (.bad 116) := by kernel_rfl
set_option maxHeartbeats 4000000 in
theorem pdr_val (a : Int) (b : Int) (c : Int) (d : Int) (ac : Int) (en : Int) (cr : Int) (ex : Int) (t : Int) : (.br ((bif bif !bval a b c d ac en cr ex then true else !bif decide (t ≥ (1 : Int)) then decide (t ≤ (1048576 : Int)) else false then true else (bif decide (dom a b c d > (65536 : Int)) then true else ((pdu_cond (t, (0 : Int), (0 : Int), dom a b c d, dom a b c d, a, b, c, d, ac, en, cr, ex, a, b, c, d, ac, en, cr, ex) ((0 : Int), (0 : Int))) && (Nat.beq (Prod.fst (pdu_g (t, (0 : Int), (0 : Int), dom a b c d, dom a b c d, a, b, c, d, ac, en, cr, ex, a, b, c, d, ac, en, cr, ex) ((0 : Int), (0 : Int)))) (0 : Nat)))))) (.ret (.tup [(false, [.v false (.int .i64 (bif bif !bval a b c d ac en cr ex then true else !bif decide (t ≥ (1 : Int)) then decide (t ≤ (1048576 : Int)) else false then (0 : Int) else bif decide (dom a b c d > (65536 : Int)) then (0 : Int) else Prod.fst (Prod.snd (pdu_g (t, (0 : Int), (0 : Int), dom a b c d, dom a b c d, a, b, c, d, ac, en, cr, ex, a, b, c, d, ac, en, cr, ex) ((0 : Int), (0 : Int))))))]), (false, [.v false (.int .i64 (bif bif !bval a b c d ac en cr ex then true else !bif decide (t ≥ (1 : Int)) then decide (t ≤ (1048576 : Int)) else false then (1 : Int) else bif decide (dom a b c d > (65536 : Int)) then (2 : Int) else (0 : Int)))])])) (.bad 116) : Tr AV).val = some (.tup [(false, [.v false (.int .i64 (durV a b c d ac en cr ex t))]), (false, [.v false (.int .i64 (durE a b c d ac en cr ex t))])]) := by
  show cond _ _ _ = _
  cases hb : bval a b c d ac en cr ex
  · simp only [durV, durE, hb, Bool.not_false, cond_true, cond_false, Bool.false_and]; rfl
  · by_cases h1 : t < 1
    · have h1' : ¬ (1 ≤ t) := by omega
      simp [durV, durE, hb, h1, h1', Tr.val]
    · by_cases h2 : t > 1048576
      · have h2' : ¬ (t ≤ 1048576) := by omega
        have h2'' : 1048576 < t := by omega
        have k1 : 1 ≤ t := by omega
        simp [durV, durE, hb, h1, h2', h2'', k1, Tr.val]
      · by_cases h3 : dom a b c d > 65536
        · have h3' : ¬ (dom a b c d ≤ 65536) := by omega
          have h3'' : 65536 < dom a b c d := by omega
          have h1' : 1 ≤ t := by omega
          have h2' : t ≤ 1048576 := by omega
          have k2 : ¬ (1048576 < t) := by omega
          simp [durV, durE, hb, h1, h1', h2', h3', h3'', k2, Tr.val]
        · have h3' : dom a b c d ≤ 65536 := by omega
          have h1' : 1 ≤ t := by omega
          have h2' : t ≤ 1048576 := by omega
          obtain ⟨r1, r2, r3⟩ := pdu_run (z0 := 0) (z1 := 0) (y0 := a) (y1 := b) (y2 := c) (y3 := d) (y4 := ac) (y5 := en) (y6 := cr) (y7 := ex) hb h1' h2' rfl h3'
          have k2 : ¬ (1048576 < t) := by omega
          have k3 : ¬ (65536 < dom a b c d) := by omega
          simp [durV, durE, hb, h1, h1', h2', h3', r1, r2, r3, k2, k3, Tr.val]
def pdr_g : List AV → Option (Tr AV)
  | [.ag [.v _ (.int .i64 a), .v _ (.int .i64 b), .v _ (.int .i64 c), .v _ (.int .i64 d), .v _ (.int .i64 ac), .v _ (.int .i64 en), .v _ (.int .i64 cr), .v _ (.int .i64 ex)], .one (.v _ (.int .i64 t))] => some (.ret (.tup [(false, [.v false (.int .i64 (durV a b c d ac en cr ex t))]), (false, [.v false (.int .i64 (durE a b c d ac en cr ex t))])]))
  | _ => none
theorem pdr_ok : FunOK Try.prog 21 pdr_g := by
  refine fun_ok (by kernel_rfl) (raC_S53_ok) (raC_L54_ok) 9 (On := (opens [38])) (fun args t h => ?_)
  unfold pdr_g at h
  split at h
  · rename_i _ a _ b _ c _ d _ ac _ en _ cr _ ex _ t
    simp only [Option.some.injEq] at h
    subst h
    refine ⟨[.ag [.v false (.int .i64 a), .v false (.int .i64 b), .v false (.int .i64 c), .v false (.int .i64 d), .v false (.int .i64 ac), .v false (.int .i64 en), .v false (.int .i64 cr), .v false (.int .i64 ex)], .one (.v false (.int .i64 t))], rfl, fun fr w us h => h, fun r hr => ?_⟩
    simp only [Tr.val, Option.some.injEq] at hr
    subst hr
    rw [pdr_tree]
    exact pdr_val a b c d ac en cr ex t
  · cases h
def raC_S55 : Sums := addS 21 pdr_g raC_S53
theorem raC_S55_ok : SumOK Try.prog raC_S55 := addS_ok (pdr_ok) (raC_S53_ok)
set_option maxRecDepth 100000 in
theorem law_RampDurations_tree (a : Int) (b : Int) (c : Int) (d : Int) (ac : Int) (en : Int) (cr : Int) (ex : Int) (t : Int) : evalF Try.prog raC_S55 (opens []) raC_L54 9 5 [.ag [.v false (.int .i64 a), .v false (.int .i64 b), .v false (.int .i64 c), .v false (.int .i64 d), .v false (.int .i64 ac), .v false (.int .i64 en), .v false (.int .i64 cr), .v false (.int .i64 ex)], .one (.v false (.int .i64 t))] = .ret (.one (.v false (.bool (bif bif decide ((bif bval a b c d ac en cr ex then dom a b c d else (0 : Int)) > (400 : Int)) then decide ((bif bval a b c d ac en cr ex then dom a b c d else (0 : Int)) ≤ (65536 : Int)) else false then true else bif bif durV a b c d ac en cr ex t == durV a b c d ac en cr ex t then durE a b c d ac en cr ex t == durE a b c d ac en cr ex t else false then true else false)))) := by kernel_rfl
set_option maxHeartbeats 4000000 in
theorem law_RampDurations_all (a : Int) (b : Int) (c : Int) (d : Int) (ac : Int) (en : Int) (cr : Int) (ex : Int) (t : Int) (r0 : Ty.InR (.prod (.prod (.int .i64) (.prod (.int .i64) (.prod (.int .i64) (.int .i64)))) (.prod (.int .i64) (.prod (.int .i64) (.prod (.int .i64) (.int .i64))))) ((a, (b, (c, d))), (ac, (en, (cr, ex))))) (l1 : -9223372036854775808 ≤ t) (g1 : t ≤ 9223372036854775807) : Tr.all (fun r => ∃ kn, r = AV.one (.v kn (.bool true))) (.ret (.one (.v false (.bool (bif bif decide ((bif bval a b c d ac en cr ex then dom a b c d else (0 : Int)) > (400 : Int)) then decide ((bif bval a b c d ac en cr ex then dom a b c d else (0 : Int)) ≤ (65536 : Int)) else false then true else bif bif durV a b c d ac en cr ex t == durV a b c d ac en cr ex t then durE a b c d ac en cr ex t == durE a b c d ac en cr ex t else false then true else false))))) := by
  exact ⟨false, by simp⟩
set_option maxHeartbeats 4000000 in
theorem law_RampDurations (v0 : Value) (x0 : ((.prod (.prod (.int .i64) (.prod (.int .i64) (.prod (.int .i64) (.int .i64)))) (.prod (.int .i64) (.prod (.int .i64) (.prod (.int .i64) (.int .i64))))) : Ty).den) (r0 : Ty.InR (.prod (.prod (.int .i64) (.prod (.int .i64) (.prod (.int .i64) (.int .i64)))) (.prod (.int .i64) (.prod (.int .i64) (.prod (.int .i64) (.int .i64))))) x0) (t : Int) (l1 : -9223372036854775808 ≤ t) (g1 : t ≤ 9223372036854775807) (z_w : World) (i0 : (AV.ag (Ty.cells false (.prod (.prod (.int .i64) (.prod (.int .i64) (.prod (.int .i64) (.int .i64)))) (.prod (.int .i64) (.prod (.int .i64) (.prod (.int .i64) (.int .i64))))) x0)).is [] (fun _ => none) (fun b => b < z_w.heap.size) z_w v0) : Calls Try.prog 5 #[v0, .int .i64 t] z_w fun e w' => e = .returned (.bool true) ∧ Ext z_w w' := by
  obtain ⟨⟨a, ⟨b, ⟨c, d⟩⟩⟩, ⟨ac, ⟨en, ⟨cr, ex⟩⟩⟩⟩ := x0
  refine law_of_tree (by kernel_rfl) (raC_S55_ok) (raC_L54_ok) (law_RampDurations_tree a b c d ac en cr ex t) (law_RampDurations_all a b c d ac en cr ex t r0 l1 g1) rfl z_w _ _ (fun _ h => h) ⟨_, _, rfl, i0, ⟨_, _, rfl, rfl, rfl⟩⟩
end Go.Proofs.Ytmaeneogjcfdfaa
