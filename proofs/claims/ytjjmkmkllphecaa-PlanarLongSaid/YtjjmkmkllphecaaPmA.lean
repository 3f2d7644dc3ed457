/-
  Layer 5: points, turns, the comparison of points.
-/
import Derived.Test.YtjjmkmkllphecaaProg
import Derived.Test.YtjjmkmkllphecaaFvX
import Derived.Test.YtjjmkmkllphecaaFvZ
import Derived.Test.YtjjmkmkllphecaaAut
import Derived.Test.YtjjmkmkllphecaaRd
import Derived.Test.YtjjmkmkllphecaaPl
import Derived.Test.YtjjmkmkllphecaaScn
import Derived.Test.YtjjmkmkllphecaaVecM
namespace Go.Proofs.Ytjjmkmkllphecaa
open Go
set_option maxRecDepth 100000 in
theorem aw13_tree : evalF Try.prog S0 (opens []) L0 9 13 [] = .ret (.one (.v true (.bool true))) := by kernel_rfl
noncomputable def pmA_S2 : Sums := addS 13 gTrue S0
theorem pmA_S2_ok : SumOK Try.prog pmA_S2 := addS_ok (gTrue_ok (by kernel_rfl) (S0_ok _) (L0_ok _) aw13_tree) (S0_ok _)
def vp (a b : Int) : Bool := decide ((-16777216 : Int) ≤ a) && decide (a ≤ (16777216 : Int)) && decide ((-16777216 : Int) ≤ b) && decide (b ≤ (16777216 : Int))
def crs (a b c d e f : Int) : Int := bif vp a b && vp c d && vp e f then (c - a) * (f - b) - (d - b) * (e - a) else 0
def sg (x : Int) : Int := bif decide (x > 0) then 1 else bif decide (x < 0) then -1 else 0
def cm (x y : Int) : Int := bif decide (x < y) then -1 else bif decide (x > y) then 1 else 0
def dst (a b c d : Int) : Int := bif vp a b && vp c d then (c - a) * (c - a) + (d - b) * (d - b) else 0
def cmpP (p q : Int × Int) : Int := bif cm p.1 q.1 != 0 then cm p.1 q.1 else cm p.2 q.2
theorem vp_b {a b : Int} (h : vp a b = true) : -16777216 ≤ a ∧ a ≤ 16777216 ∧ -16777216 ≤ b ∧ b ≤ 16777216 := by
  simp only [vp, Bool.and_eq_true, decide_eq_true_eq] at h
  exact ⟨h.1.1.1, h.1.1.2, h.1.2, h.2⟩
theorem crs_w {a b c d e f : Int} (h1 : vp a b = true) (h2 : vp c d = true) (h3 : vp e f = true) : IntKind.wrap IntKind.i64 (IntKind.wrap IntKind.i64 (IntKind.wrap IntKind.i64 (c - a) * IntKind.wrap IntKind.i64 (f - b)) - IntKind.wrap IntKind.i64 (IntKind.wrap IntKind.i64 (d - b) * IntKind.wrap IntKind.i64 (e - a))) = (c - a) * (f - b) - (d - b) * (e - a) := by
  obtain ⟨_, _, _, _⟩ := vp_b h1
  obtain ⟨_, _, _, _⟩ := vp_b h2
  obtain ⟨_, _, _, _⟩ := vp_b h3
  obtain ⟨m1, m2⟩ := mul_in (a := c - a) (b := f - b) (k := 33554432) (m := 33554432) (by omega) (by omega) (by omega) (by omega)
  obtain ⟨m3, m4⟩ := mul_in (a := d - b) (b := e - a) (k := 33554432) (m := 33554432) (by omega) (by omega) (by omega) (by omega)
  rw [wid (x := c - a) (by omega) (by omega), wid (x := f - b) (by omega) (by omega), wid (x := d - b) (by omega) (by omega), wid (x := e - a) (by omega) (by omega), wid (x := (c - a) * (f - b)) (by omega) (by omega), wid (x := (d - b) * (e - a)) (by omega) (by omega), wid (by omega) (by omega)]
theorem dst_w {a b c d : Int} (h1 : vp a b = true) (h2 : vp c d = true) : IntKind.wrap IntKind.i64 (IntKind.wrap IntKind.i64 (IntKind.wrap IntKind.i64 (c - a) * IntKind.wrap IntKind.i64 (c - a)) + IntKind.wrap IntKind.i64 (IntKind.wrap IntKind.i64 (d - b) * IntKind.wrap IntKind.i64 (d - b))) = (c - a) * (c - a) + (d - b) * (d - b) := by
  obtain ⟨_, _, _, _⟩ := vp_b h1
  obtain ⟨_, _, _, _⟩ := vp_b h2
  obtain ⟨m1, m2⟩ := mul_in (a := c - a) (b := c - a) (k := 33554432) (m := 33554432) (by omega) (by omega) (by omega) (by omega)
  obtain ⟨m3, m4⟩ := mul_in (a := d - b) (b := d - b) (k := 33554432) (m := 33554432) (by omega) (by omega) (by omega) (by omega)
  rw [wid (x := c - a) (by omega) (by omega), wid (x := d - b) (by omega) (by omega), wid (x := (c - a) * (c - a)) (by omega) (by omega), wid (x := (d - b) * (d - b)) (by omega) (by omega), wid (by omega) (by omega)]
set_option maxRecDepth 100000 in
theorem vpa_tree (a : Int) (b : Int) : evalF Try.prog pmA_S2 (opens []) L0 9 24 [.ag [.v false (.int .i64 a), .v false (.int .i64 b)]] = .ret (.one (.v false (.bool (bif bif bif decide ((-16777216 : Int) ≤ a) then decide (a ≤ (16777216 : Int)) else false then decide ((-16777216 : Int) ≤ b) else false then decide (b ≤ (16777216 : Int)) else false)))) := by kernel_rfl
set_option maxHeartbeats 4000000 in
theorem vpa_val (a : Int) (b : Int) : (.ret (.one (.v false (.bool (bif bif bif decide ((-16777216 : Int) ≤ a) then decide (a ≤ (16777216 : Int)) else false then decide ((-16777216 : Int) ≤ b) else false then decide (b ≤ (16777216 : Int)) else false)))) : Tr AV).val = some (.one (.v false (.bool (vp a b)))) := by
  show some _ = some _
  unfold vp
  generalize decide ((-16777216 : Int) ≤ a) = A, decide (a ≤ (16777216 : Int)) = B, decide ((-16777216 : Int) ≤ b) = C, decide (b ≤ (16777216 : Int)) = D
  cases A <;> cases B <;> cases C <;> cases D <;> rfl
noncomputable def vpa_g : List AV → Option (Tr AV)
  | [.ag [.v _ (.int .i64 a), .v _ (.int .i64 b)]] => some (.ret (.one (.v false (.bool (vp a b)))))
  | _ => none
set_option maxHeartbeats 4000000 in
theorem vpa_ok : FunOK Try.prog 24 vpa_g := by
  refine fun_ok (by kernel_rfl) (pmA_S2_ok) (L0_ok _) 9 (On := (opens [])) (fun args t h => ?_)
  unfold vpa_g at h
  split at h
  · rename_i _ a _ b
    simp only [Option.some.injEq] at h
    subst h
    refine ⟨[.ag [.v false (.int .i64 a), .v false (.int .i64 b)]], rfl, fun fr w us h => h, fun r hr => ?_⟩
    simp only [Tr.val, Option.some.injEq] at hr
    subst hr
    rw [vpa_tree]
    exact vpa_val a b
  · cases h
noncomputable def pmA_S3 : Sums := addS 24 vpa_g pmA_S2
theorem pmA_S3_ok : SumOK Try.prog pmA_S3 := addS_ok (vpa_ok) (pmA_S2_ok)
set_option maxRecDepth 100000 in
theorem vpb_tree (a : Int) (b : Int) : evalF Try.prog pmA_S3 (opens []) L0 9 32 [.ag [.v false (.int .i64 a), .v false (.int .i64 b)]] = .ret (.one (.v false (.bool (bif bif bif decide (a ≥ (-16777216 : Int)) then decide (a ≤ (16777216 : Int)) else false then decide (b ≥ (-16777216 : Int)) else false then decide (b ≤ (16777216 : Int)) else false)))) := by kernel_rfl
set_option maxHeartbeats 4000000 in
theorem vpb_val (a : Int) (b : Int) : (.ret (.one (.v false (.bool (bif bif bif decide (a ≥ (-16777216 : Int)) then decide (a ≤ (16777216 : Int)) else false then decide (b ≥ (-16777216 : Int)) else false then decide (b ≤ (16777216 : Int)) else false)))) : Tr AV).val = some (.one (.v false (.bool (vp a b)))) := by
  show some _ = some _
  unfold vp
  generalize decide (a ≥ (-16777216 : Int)) = A, decide (a ≤ (16777216 : Int)) = B, decide (b ≥ (-16777216 : Int)) = C, decide (b ≤ (16777216 : Int)) = D
  cases A <;> cases B <;> cases C <;> cases D <;> rfl
noncomputable def vpb_g : List AV → Option (Tr AV)
  | [.ag [.v _ (.int .i64 a), .v _ (.int .i64 b)]] => some (.ret (.one (.v false (.bool (vp a b)))))
  | _ => none
set_option maxHeartbeats 4000000 in
theorem vpb_ok : FunOK Try.prog 32 vpb_g := by
  refine fun_ok (by kernel_rfl) (pmA_S3_ok) (L0_ok _) 9 (On := (opens [])) (fun args t h => ?_)
  unfold vpb_g at h
  split at h
  · rename_i _ a _ b
    simp only [Option.some.injEq] at h
    subst h
    refine ⟨[.ag [.v false (.int .i64 a), .v false (.int .i64 b)]], rfl, fun fr w us h => h, fun r hr => ?_⟩
    simp only [Tr.val, Option.some.injEq] at hr
    subst hr
    rw [vpb_tree]
    exact vpb_val a b
  · cases h
noncomputable def pmA_S4 : Sums := addS 32 vpb_g pmA_S3
theorem pmA_S4_ok : SumOK Try.prog pmA_S4 := addS_ok (vpb_ok) (pmA_S3_ok)
set_option maxRecDepth 100000 in
theorem cra_tree (a : Int) (b : Int) (c : Int) (d : Int) (e : Int) (f : Int) : evalF Try.prog pmA_S4 (opens []) L0 9 17 [.ag [.v false (.int .i64 a), .v false (.int .i64 b)], .ag [.v false (.int .i64 c), .v false (.int .i64 d)], .ag [.v false (.int .i64 e), .v false (.int .i64 f)]] = .ret (.one (.v false (.int .i64 (bif bif bif !vp a b then true else !vp c d then true else !vp e f then (0 : Int) else IntKind.wrap IntKind.i64 (IntKind.wrap IntKind.i64 (IntKind.wrap IntKind.i64 (c - a) * IntKind.wrap IntKind.i64 (f - b)) - IntKind.wrap IntKind.i64 (IntKind.wrap IntKind.i64 (d - b) * IntKind.wrap IntKind.i64 (e - a))))))) := by kernel_rfl
set_option maxHeartbeats 4000000 in
theorem cra_val (a : Int) (b : Int) (c : Int) (d : Int) (e : Int) (f : Int) : (.ret (.one (.v false (.int .i64 (bif bif bif !vp a b then true else !vp c d then true else !vp e f then (0 : Int) else IntKind.wrap IntKind.i64 (IntKind.wrap IntKind.i64 (IntKind.wrap IntKind.i64 (c - a) * IntKind.wrap IntKind.i64 (f - b)) - IntKind.wrap IntKind.i64 (IntKind.wrap IntKind.i64 (d - b) * IntKind.wrap IntKind.i64 (e - a))))))) : Tr AV).val = some (.one (.v false (.int .i64 (crs a b c d e f)))) := by
  show some _ = some _
  unfold crs
  cases h1 : vp a b
  · rfl
  cases h2 : vp c d
  · rfl
  cases h3 : vp e f
  · rfl
  rw [crs_w h1 h2 h3]; rfl
noncomputable def cra_g : List AV → Option (Tr AV)
  | [.ag [.v _ (.int .i64 a), .v _ (.int .i64 b)], .ag [.v _ (.int .i64 c), .v _ (.int .i64 d)], .ag [.v _ (.int .i64 e), .v _ (.int .i64 f)]] => some (.ret (.one (.v false (.int .i64 (crs a b c d e f)))))
  | _ => none
set_option maxHeartbeats 4000000 in
theorem cra_ok : FunOK Try.prog 17 cra_g := by
  refine fun_ok (by kernel_rfl) (pmA_S4_ok) (L0_ok _) 9 (On := (opens [])) (fun args t h => ?_)
  unfold cra_g at h
  split at h
  · rename_i _ a _ b _ c _ d _ e _ f
    simp only [Option.some.injEq] at h
    subst h
    refine ⟨[.ag [.v false (.int .i64 a), .v false (.int .i64 b)], .ag [.v false (.int .i64 c), .v false (.int .i64 d)], .ag [.v false (.int .i64 e), .v false (.int .i64 f)]], rfl, fun fr w us h => h, fun r hr => ?_⟩
    simp only [Tr.val, Option.some.injEq] at hr
    subst hr
    rw [cra_tree]
    exact cra_val a b c d e f
  · cases h
noncomputable def pmA_S5 : Sums := addS 17 cra_g pmA_S4
theorem pmA_S5_ok : SumOK Try.prog pmA_S5 := addS_ok (cra_ok) (pmA_S4_ok)
set_option maxRecDepth 100000 in
theorem crb_tree (a : Int) (b : Int) (c : Int) (d : Int) (e : Int) (f : Int) : evalF Try.prog pmA_S5 (opens []) L0 9 46 [.ag [.v false (.int .i64 a), .v false (.int .i64 b)], .ag [.v false (.int .i64 c), .v false (.int .i64 d)], .ag [.v false (.int .i64 e), .v false (.int .i64 f)]] = .ret (.one (.v false (.int .i64 (bif bif bif !vp a b then true else !vp c d then true else !vp e f then (0 : Int) else IntKind.wrap IntKind.i64 (IntKind.wrap IntKind.i64 (IntKind.wrap IntKind.i64 (c - a) * IntKind.wrap IntKind.i64 (f - b)) - IntKind.wrap IntKind.i64 (IntKind.wrap IntKind.i64 (d - b) * IntKind.wrap IntKind.i64 (e - a))))))) := by kernel_rfl
set_option maxHeartbeats 4000000 in
theorem crb_val (a : Int) (b : Int) (c : Int) (d : Int) (e : Int) (f : Int) : (.ret (.one (.v false (.int .i64 (bif bif bif !vp a b then true else !vp c d then true else !vp e f then (0 : Int) else IntKind.wrap IntKind.i64 (IntKind.wrap IntKind.i64 (IntKind.wrap IntKind.i64 (c - a) * IntKind.wrap IntKind.i64 (f - b)) - IntKind.wrap IntKind.i64 (IntKind.wrap IntKind.i64 (d - b) * IntKind.wrap IntKind.i64 (e - a))))))) : Tr AV).val = some (.one (.v false (.int .i64 (crs a b c d e f)))) := by
  show some _ = some _
  unfold crs
  cases h1 : vp a b
  · rfl
  cases h2 : vp c d
  · rfl
  cases h3 : vp e f
  · rfl
  rw [crs_w h1 h2 h3]; rfl
noncomputable def crb_g : List AV → Option (Tr AV)
  | [.ag [.v _ (.int .i64 a), .v _ (.int .i64 b)], .ag [.v _ (.int .i64 c), .v _ (.int .i64 d)], .ag [.v _ (.int .i64 e), .v _ (.int .i64 f)]] => some (.ret (.one (.v false (.int .i64 (crs a b c d e f)))))
  | _ => none
set_option maxHeartbeats 4000000 in
theorem crb_ok : FunOK Try.prog 46 crb_g := by
  refine fun_ok (by kernel_rfl) (pmA_S5_ok) (L0_ok _) 9 (On := (opens [])) (fun args t h => ?_)
  unfold crb_g at h
  split at h
  · rename_i _ a _ b _ c _ d _ e _ f
    simp only [Option.some.injEq] at h
    subst h
    refine ⟨[.ag [.v false (.int .i64 a), .v false (.int .i64 b)], .ag [.v false (.int .i64 c), .v false (.int .i64 d)], .ag [.v false (.int .i64 e), .v false (.int .i64 f)]], rfl, fun fr w us h => h, fun r hr => ?_⟩
    simp only [Tr.val, Option.some.injEq] at hr
    subst hr
    rw [crb_tree]
    exact crb_val a b c d e f
  · cases h
noncomputable def pmA_S6 : Sums := addS 46 crb_g pmA_S5
theorem pmA_S6_ok : SumOK Try.prog pmA_S6 := addS_ok (crb_ok) (pmA_S5_ok)
set_option maxRecDepth 100000 in
theorem dsa_tree (a : Int) (b : Int) (c : Int) (d : Int) : evalF Try.prog pmA_S6 (opens []) L0 9 18 [.ag [.v false (.int .i64 a), .v false (.int .i64 b)], .ag [.v false (.int .i64 c), .v false (.int .i64 d)]] = .ret (.one (.v false (.int .i64 (bif bif !vp a b then true else !vp c d then (0 : Int) else IntKind.wrap IntKind.i64 (IntKind.wrap IntKind.i64 (IntKind.wrap IntKind.i64 (c - a) * IntKind.wrap IntKind.i64 (c - a)) + IntKind.wrap IntKind.i64 (IntKind.wrap IntKind.i64 (d - b) * IntKind.wrap IntKind.i64 (d - b))))))) := by kernel_rfl
set_option maxHeartbeats 4000000 in
theorem dsa_val (a : Int) (b : Int) (c : Int) (d : Int) : (.ret (.one (.v false (.int .i64 (bif bif !vp a b then true else !vp c d then (0 : Int) else IntKind.wrap IntKind.i64 (IntKind.wrap IntKind.i64 (IntKind.wrap IntKind.i64 (c - a) * IntKind.wrap IntKind.i64 (c - a)) + IntKind.wrap IntKind.i64 (IntKind.wrap IntKind.i64 (d - b) * IntKind.wrap IntKind.i64 (d - b))))))) : Tr AV).val = some (.one (.v false (.int .i64 (dst a b c d)))) := by
  show some _ = some _
  unfold dst
  cases h1 : vp a b
  · rfl
  cases h2 : vp c d
  · rfl
  rw [dst_w h1 h2]; rfl
noncomputable def dsa_g : List AV → Option (Tr AV)
  | [.ag [.v _ (.int .i64 a), .v _ (.int .i64 b)], .ag [.v _ (.int .i64 c), .v _ (.int .i64 d)]] => some (.ret (.one (.v false (.int .i64 (dst a b c d)))))
  | _ => none
set_option maxHeartbeats 4000000 in
theorem dsa_ok : FunOK Try.prog 18 dsa_g := by
  refine fun_ok (by kernel_rfl) (pmA_S6_ok) (L0_ok _) 9 (On := (opens [])) (fun args t h => ?_)
  unfold dsa_g at h
  split at h
  · rename_i _ a _ b _ c _ d
    simp only [Option.some.injEq] at h
    subst h
    refine ⟨[.ag [.v false (.int .i64 a), .v false (.int .i64 b)], .ag [.v false (.int .i64 c), .v false (.int .i64 d)]], rfl, fun fr w us h => h, fun r hr => ?_⟩
    simp only [Tr.val, Option.some.injEq] at hr
    subst hr
    rw [dsa_tree]
    exact dsa_val a b c d
  · cases h
noncomputable def pmA_S7 : Sums := addS 18 dsa_g pmA_S6
theorem pmA_S7_ok : SumOK Try.prog pmA_S7 := addS_ok (dsa_ok) (pmA_S6_ok)
set_option maxRecDepth 100000 in
theorem cmc_tree (x : Int) (y : Int) : evalF Try.prog pmA_S7 (opens []) L0 9 35 [.one (.v false (.int .i64 x)), .one (.v false (.int .i64 y))] = .ret (.one (.v false (.int .i64 (bif x != x then bif y != y then (0 : Int) else (-1 : Int) else bif y != y then (1 : Int) else bif decide (x < y) then (-1 : Int) else bif decide (x > y) then (1 : Int) else (0 : Int))))) := by kernel_rfl
set_option maxHeartbeats 4000000 in
theorem cmc_val (x : Int) (y : Int) : (.ret (.one (.v false (.int .i64 (bif x != x then bif y != y then (0 : Int) else (-1 : Int) else bif y != y then (1 : Int) else bif decide (x < y) then (-1 : Int) else bif decide (x > y) then (1 : Int) else (0 : Int))))) : Tr AV).val = some (.one (.v false (.int .i64 (cm x y)))) := by
  show some _ = some _
  unfold cm
  simp only [bne_self_eq_false, cond_false]
noncomputable def cmc_g : List AV → Option (Tr AV)
  | [.one (.v _ (.int .i64 x)), .one (.v _ (.int .i64 y))] => some (.ret (.one (.v false (.int .i64 (cm x y)))))
  | _ => none
set_option maxHeartbeats 4000000 in
theorem cmc_ok : FunOK Try.prog 35 cmc_g := by
  refine fun_ok (by kernel_rfl) (pmA_S7_ok) (L0_ok _) 9 (On := (opens [])) (fun args t h => ?_)
  unfold cmc_g at h
  split at h
  · rename_i _ x _ y
    simp only [Option.some.injEq] at h
    subst h
    refine ⟨[.one (.v false (.int .i64 x)), .one (.v false (.int .i64 y))], rfl, fun fr w us h => h, fun r hr => ?_⟩
    simp only [Tr.val, Option.some.injEq] at hr
    subst hr
    rw [cmc_tree]
    exact cmc_val x y
  · cases h
noncomputable def pmA_S8 : Sums := addS 35 cmc_g pmA_S7
theorem pmA_S8_ok : SumOK Try.prog pmA_S8 := addS_ok (cmc_ok) (pmA_S7_ok)
set_option maxRecDepth 100000 in
theorem tua_tree (a : Int) (b : Int) (c : Int) (d : Int) (e : Int) (f : Int) : evalF Try.prog pmA_S8 (opens []) L0 9 16 [.ag [.v false (.int .i64 a), .v false (.int .i64 b)], .ag [.v false (.int .i64 c), .v false (.int .i64 d)], .ag [.v false (.int .i64 e), .v false (.int .i64 f)]] = .ret (.one (.v false (.int .i64 (cm (crs a b c d e f) (0 : Int))))) := by kernel_rfl
set_option maxHeartbeats 4000000 in
theorem tua_val (a : Int) (b : Int) (c : Int) (d : Int) (e : Int) (f : Int) : (.ret (.one (.v false (.int .i64 (cm (crs a b c d e f) (0 : Int))))) : Tr AV).val = some (.one (.v false (.int .i64 (sg (crs a b c d e f))))) := by
  show some _ = some _
  generalize crs a b c d e f = x
  unfold sg
  try unfold cm
  by_cases h1 : x > 0
  · have h2 : ¬ x < 0 := by omega
    simp only [h1, h2, decide_true, decide_false, cond_true, cond_false]
  · by_cases h2 : x < 0
    · simp only [h1, h2, decide_true, decide_false, cond_true, cond_false]
    · simp only [h1, h2, decide_true, decide_false, cond_true, cond_false]
noncomputable def tua_g : List AV → Option (Tr AV)
  | [.ag [.v _ (.int .i64 a), .v _ (.int .i64 b)], .ag [.v _ (.int .i64 c), .v _ (.int .i64 d)], .ag [.v _ (.int .i64 e), .v _ (.int .i64 f)]] => some (.ret (.one (.v false (.int .i64 (sg (crs a b c d e f))))))
  | _ => none
set_option maxHeartbeats 4000000 in
theorem tua_ok : FunOK Try.prog 16 tua_g := by
  refine fun_ok (by kernel_rfl) (pmA_S8_ok) (L0_ok _) 9 (On := (opens [])) (fun args t h => ?_)
  unfold tua_g at h
  split at h
  · rename_i _ a _ b _ c _ d _ e _ f
    simp only [Option.some.injEq] at h
    subst h
    refine ⟨[.ag [.v false (.int .i64 a), .v false (.int .i64 b)], .ag [.v false (.int .i64 c), .v false (.int .i64 d)], .ag [.v false (.int .i64 e), .v false (.int .i64 f)]], rfl, fun fr w us h => h, fun r hr => ?_⟩
    simp only [Tr.val, Option.some.injEq] at hr
    subst hr
    rw [tua_tree]
    exact tua_val a b c d e f
  · cases h
noncomputable def pmA_S9 : Sums := addS 16 tua_g pmA_S8
theorem pmA_S9_ok : SumOK Try.prog pmA_S9 := addS_ok (tua_ok) (pmA_S8_ok)
set_option maxRecDepth 100000 in
theorem tub_tree (a : Int) (b : Int) (c : Int) (d : Int) (e : Int) (f : Int) : evalF Try.prog pmA_S9 (opens []) L0 9 34 [.ag [.v false (.int .i64 a), .v false (.int .i64 b)], .ag [.v false (.int .i64 c), .v false (.int .i64 d)], .ag [.v false (.int .i64 e), .v false (.int .i64 f)]] = .ret (.one (.v false (.int .i64 (bif decide (crs a b c d e f > (0 : Int)) then (1 : Int) else bif decide (crs a b c d e f < (0 : Int)) then (-1 : Int) else (0 : Int))))) := by kernel_rfl
set_option maxHeartbeats 4000000 in
theorem tub_val (a : Int) (b : Int) (c : Int) (d : Int) (e : Int) (f : Int) : (.ret (.one (.v false (.int .i64 (bif decide (crs a b c d e f > (0 : Int)) then (1 : Int) else bif decide (crs a b c d e f < (0 : Int)) then (-1 : Int) else (0 : Int))))) : Tr AV).val = some (.one (.v false (.int .i64 (sg (crs a b c d e f))))) := by
  show some _ = some _
  generalize crs a b c d e f = x
  unfold sg
  try unfold cm
  by_cases h1 : x > 0
  · have h2 : ¬ x < 0 := by omega
    simp only [h1, h2, decide_true, decide_false, cond_true, cond_false]
  · by_cases h2 : x < 0
    · simp only [h1, h2, decide_true, decide_false, cond_true, cond_false]
    · simp only [h1, h2, decide_true, decide_false, cond_true, cond_false]
noncomputable def tub_g : List AV → Option (Tr AV)
  | [.ag [.v _ (.int .i64 a), .v _ (.int .i64 b)], .ag [.v _ (.int .i64 c), .v _ (.int .i64 d)], .ag [.v _ (.int .i64 e), .v _ (.int .i64 f)]] => some (.ret (.one (.v false (.int .i64 (sg (crs a b c d e f))))))
  | _ => none
set_option maxHeartbeats 4000000 in
theorem tub_ok : FunOK Try.prog 34 tub_g := by
  refine fun_ok (by kernel_rfl) (pmA_S9_ok) (L0_ok _) 9 (On := (opens [])) (fun args t h => ?_)
  unfold tub_g at h
  split at h
  · rename_i _ a _ b _ c _ d _ e _ f
    simp only [Option.some.injEq] at h
    subst h
    refine ⟨[.ag [.v false (.int .i64 a), .v false (.int .i64 b)], .ag [.v false (.int .i64 c), .v false (.int .i64 d)], .ag [.v false (.int .i64 e), .v false (.int .i64 f)]], rfl, fun fr w us h => h, fun r hr => ?_⟩
    simp only [Tr.val, Option.some.injEq] at hr
    subst hr
    rw [tub_tree]
    exact tub_val a b c d e f
  · cases h
noncomputable def pmA_S10 : Sums := addS 34 tub_g pmA_S9
theorem pmA_S10_ok : SumOK Try.prog pmA_S10 := addS_ok (tub_ok) (pmA_S9_ok)
def el_i (l : (Ty.list (Ty.int IntKind.i64)).den) (i : Int) : Int := elm (Ty.int IntKind.i64) l i
set_option maxRecDepth 100000 in
theorem cpp_tree (a : Int) (b : Int) (c : Int) (d : Int) : evalF Try.prog pmA_S10 (opens []) L0 9 30 [.ag [.v false (.int .i64 a), .v false (.int .i64 b)], .ag [.v false (.int .i64 c), .v false (.int .i64 d)]] = .ret (.one (.v false (.int .i64 (bif el_i [cm a c, cm b d] (0 : Int) != (0 : Int) then el_i [cm a c, cm b d] (0 : Int) else bif el_i [cm a c, cm b d] (IntKind.wrap IntKind.i64 ((0 : Int) + (1 : Int))) != (0 : Int) then el_i [cm a c, cm b d] (IntKind.wrap IntKind.i64 ((0 : Int) + (1 : Int))) else (0 : Int))))) := by kernel_rfl
set_option maxHeartbeats 4000000 in
theorem cpp_val (a : Int) (b : Int) (c : Int) (d : Int) : (.ret (.one (.v false (.int .i64 (bif el_i [cm a c, cm b d] (0 : Int) != (0 : Int) then el_i [cm a c, cm b d] (0 : Int) else bif el_i [cm a c, cm b d] (IntKind.wrap IntKind.i64 ((0 : Int) + (1 : Int))) != (0 : Int) then el_i [cm a c, cm b d] (IntKind.wrap IntKind.i64 ((0 : Int) + (1 : Int))) else (0 : Int))))) : Tr AV).val = some (.one (.v false (.int .i64 (cmpP (a, b) (c, d))))) := by
  show some _ = some _
  unfold cmpP
  show some (AV.one (.v false (.int .i64 (bif cm a c != 0 then cm a c else bif cm b d != 0 then cm b d else 0)))) = _
  have e : (bif cm b d != 0 then cm b d else 0) = cm b d := by
    by_cases h : cm b d = 0
    · rw [h]; rfl
    · have h' : (cm b d != 0) = true := by simp [h]
      rw [h']; rfl
  rw [e]
noncomputable def cpp_g : List AV → Option (Tr AV)
  | [.ag [.v _ (.int .i64 a), .v _ (.int .i64 b)], .ag [.v _ (.int .i64 c), .v _ (.int .i64 d)]] => some (.ret (.one (.v false (.int .i64 (cmpP (a, b) (c, d))))))
  | _ => none
set_option maxHeartbeats 4000000 in
theorem cpp_ok : FunOK Try.prog 30 cpp_g := by
  refine fun_ok (by kernel_rfl) (pmA_S10_ok) (L0_ok _) 9 (On := (opens [])) (fun args t h => ?_)
  unfold cpp_g at h
  split at h
  · rename_i _ a _ b _ c _ d
    simp only [Option.some.injEq] at h
    subst h
    refine ⟨[.ag [.v false (.int .i64 a), .v false (.int .i64 b)], .ag [.v false (.int .i64 c), .v false (.int .i64 d)]], rfl, fun fr w us h => h, fun r hr => ?_⟩
    simp only [Tr.val, Option.some.injEq] at hr
    subst hr
    rw [cpp_tree]
    exact cpp_val a b c d
  · cases h
noncomputable def pmA_S11 : Sums := addS 30 cpp_g pmA_S10
theorem pmA_S11_ok : SumOK Try.prog pmA_S11 := addS_ok (cpp_ok) (pmA_S10_ok)
def bw (a c e : Int) : Bool := decide (min a c ≤ e) && decide (e ≤ max a c)
def hld (a b c d e f : Int) : Bool := bw a c e && bw b d f && (crs a b c d e f == (0 : Int))
def onP (e f a b c d : Int) : Bool := vp e f && vp a b && vp c d && hld a b c d e f
theorem sg0 (x : Int) : (sg x == (0 : Int)) = (x == 0) := by
  unfold sg
  by_cases h1 : x > 0
  · have h2 : (x == 0) = false := by simp; omega
    simp only [h1, decide_true, cond_true, h2]; rfl
  · by_cases h2 : x < 0
    · have h3 : (x == 0) = false := by simp; omega
      simp only [h1, h2, decide_true, decide_false, cond_true, cond_false, h3]; rfl
    · have h3 : x = 0 := by omega
      subst h3; rfl
theorem bw_eq (a c e : Int) : (bif (bif decide (a ≤ e) then decide (e ≤ c) else false) then true else bif decide (c ≤ e) then decide (e ≤ a) else false) = bw a c e := by
  unfold bw
  rw [Bool.eq_iff_iff]
  simp only [Bool.cond_eq_ite, Bool.and_eq_true, decide_eq_true_eq]
  by_cases h : a ≤ e <;> by_cases h' : e ≤ c <;> simp [h, h'] <;> omega
set_option maxRecDepth 100000 in
theorem hla_tree (a : Int) (b : Int) (c : Int) (d : Int) (e : Int) (f : Int) : evalF Try.prog pmA_S11 (opens []) L0 9 28 [.ag [.v false (.int .i64 a), .v false (.int .i64 b), .v false (.int .i64 c), .v false (.int .i64 d)], .ag [.v false (.int .i64 e), .v false (.int .i64 f)]] = .ret (.one (.v false (.bool (bif bif bif decide ((if c < a then c else a) ≤ e) then decide (e ≤ if c > a then c else a) else false then bif decide ((if d < b then d else b) ≤ f) then decide (f ≤ if d > b then d else b) else false else false then sg (crs a b c d e f) == (0 : Int) else false)))) := by kernel_rfl
set_option maxHeartbeats 4000000 in
theorem hla_val (a : Int) (b : Int) (c : Int) (d : Int) (e : Int) (f : Int) : (.ret (.one (.v false (.bool (bif bif bif decide ((if c < a then c else a) ≤ e) then decide (e ≤ if c > a then c else a) else false then bif decide ((if d < b then d else b) ≤ f) then decide (f ≤ if d > b then d else b) else false else false then sg (crs a b c d e f) == (0 : Int) else false)))) : Tr AV).val = some (.one (.v false (.bool (hld a b c d e f)))) := by
  show some _ = some _
  rw [ite_min, ite_max, ite_min, ite_max, sg0]
  unfold hld bw
  generalize decide (min a c ≤ e) = A, decide (e ≤ max a c) = B, decide (min b d ≤ f) = C, decide (f ≤ max b d) = D, (crs a b c d e f == (0 : Int)) = E
  cases A <;> cases B <;> cases C <;> cases D <;> cases E <;> rfl
noncomputable def hla_g : List AV → Option (Tr AV)
  | [.ag [.v _ (.int .i64 a), .v _ (.int .i64 b), .v _ (.int .i64 c), .v _ (.int .i64 d)], .ag [.v _ (.int .i64 e), .v _ (.int .i64 f)]] => some (.ret (.one (.v false (.bool (hld a b c d e f)))))
  | _ => none
set_option maxHeartbeats 4000000 in
theorem hla_ok : FunOK Try.prog 28 hla_g := by
  refine fun_ok (by kernel_rfl) (pmA_S11_ok) (L0_ok _) 9 (On := (opens [])) (fun args t h => ?_)
  unfold hla_g at h
  split at h
  · rename_i _ a _ b _ c _ d _ e _ f
    simp only [Option.some.injEq] at h
    subst h
    refine ⟨[.ag [.v false (.int .i64 a), .v false (.int .i64 b), .v false (.int .i64 c), .v false (.int .i64 d)], .ag [.v false (.int .i64 e), .v false (.int .i64 f)]], rfl, fun fr w us h => h, fun r hr => ?_⟩
    simp only [Tr.val, Option.some.injEq] at hr
    subst hr
    rw [hla_tree]
    exact hla_val a b c d e f
  · cases h
noncomputable def pmA_S12 : Sums := addS 28 hla_g pmA_S11
theorem pmA_S12_ok : SumOK Try.prog pmA_S12 := addS_ok (hla_ok) (pmA_S11_ok)
set_option maxRecDepth 100000 in
theorem ona_tree (e : Int) (f : Int) (a : Int) (b : Int) (c : Int) (d : Int) : evalF Try.prog pmA_S12 (opens []) L0 9 15 [.ag [.v false (.int .i64 e), .v false (.int .i64 f)], .ag [.v false (.int .i64 a), .v false (.int .i64 b), .v false (.int .i64 c), .v false (.int .i64 d)]] = .ret (.one (.v false (.bool (bif bif bif vp e f then vp a b else false then vp c d else false then hld a b c d e f else false)))) := by kernel_rfl
set_option maxHeartbeats 4000000 in
theorem ona_val (e : Int) (f : Int) (a : Int) (b : Int) (c : Int) (d : Int) : (.ret (.one (.v false (.bool (bif bif bif vp e f then vp a b else false then vp c d else false then hld a b c d e f else false)))) : Tr AV).val = some (.one (.v false (.bool (onP e f a b c d)))) := by
  show some _ = some _
  unfold onP
  cases vp e f <;> cases vp a b <;> cases vp c d <;> rfl
noncomputable def ona_g : List AV → Option (Tr AV)
  | [.ag [.v _ (.int .i64 e), .v _ (.int .i64 f)], .ag [.v _ (.int .i64 a), .v _ (.int .i64 b), .v _ (.int .i64 c), .v _ (.int .i64 d)]] => some (.ret (.one (.v false (.bool (onP e f a b c d)))))
  | _ => none
set_option maxHeartbeats 4000000 in
theorem ona_ok : FunOK Try.prog 15 ona_g := by
  refine fun_ok (by kernel_rfl) (pmA_S12_ok) (L0_ok _) 9 (On := (opens [])) (fun args t h => ?_)
  unfold ona_g at h
  split at h
  · rename_i _ e _ f _ a _ b _ c _ d
    simp only [Option.some.injEq] at h
    subst h
    refine ⟨[.ag [.v false (.int .i64 e), .v false (.int .i64 f)], .ag [.v false (.int .i64 a), .v false (.int .i64 b), .v false (.int .i64 c), .v false (.int .i64 d)]], rfl, fun fr w us h => h, fun r hr => ?_⟩
    simp only [Tr.val, Option.some.injEq] at hr
    subst hr
    rw [ona_tree]
    exact ona_val e f a b c d
  · cases h
noncomputable def pmA_S13 : Sums := addS 15 ona_g pmA_S12
theorem pmA_S13_ok : SumOK Try.prog pmA_S13 := addS_ok (ona_ok) (pmA_S12_ok)
set_option maxRecDepth 100000 in
theorem onb_tree (e : Int) (f : Int) (a : Int) (b : Int) (c : Int) (d : Int) : evalF Try.prog pmA_S13 (opens []) L0 9 45 [.ag [.v false (.int .i64 e), .v false (.int .i64 f)], .ag [.v false (.int .i64 a), .v false (.int .i64 b), .v false (.int .i64 c), .v false (.int .i64 d)]] = .ret (.one (.v false (.bool (bif bif bif !vp e f then true else !vp a b then true else !vp c d then false else bif bif crs a b c d e f == (0 : Int) then bif bif decide (a ≤ e) then decide (e ≤ c) else false then true else bif decide (c ≤ e) then decide (e ≤ a) else false else false then bif bif decide (b ≤ f) then decide (f ≤ d) else false then true else bif decide (d ≤ f) then decide (f ≤ b) else false else false)))) := by kernel_rfl
set_option maxHeartbeats 4000000 in
theorem onb_val (e : Int) (f : Int) (a : Int) (b : Int) (c : Int) (d : Int) : (.ret (.one (.v false (.bool (bif bif bif !vp e f then true else !vp a b then true else !vp c d then false else bif bif crs a b c d e f == (0 : Int) then bif bif decide (a ≤ e) then decide (e ≤ c) else false then true else bif decide (c ≤ e) then decide (e ≤ a) else false else false then bif bif decide (b ≤ f) then decide (f ≤ d) else false then true else bif decide (d ≤ f) then decide (f ≤ b) else false else false)))) : Tr AV).val = some (.one (.v false (.bool (onP e f a b c d)))) := by
  show some _ = some _
  rw [bw_eq, bw_eq]
  unfold onP hld
  cases vp e f <;> cases vp a b <;> cases vp c d <;> cases bw a c e <;> cases bw b d f <;> cases crs a b c d e f == (0 : Int) <;> rfl
noncomputable def onb_g : List AV → Option (Tr AV)
  | [.ag [.v _ (.int .i64 e), .v _ (.int .i64 f)], .ag [.v _ (.int .i64 a), .v _ (.int .i64 b), .v _ (.int .i64 c), .v _ (.int .i64 d)]] => some (.ret (.one (.v false (.bool (onP e f a b c d)))))
  | _ => none
set_option maxHeartbeats 4000000 in
theorem onb_ok : FunOK Try.prog 45 onb_g := by
  refine fun_ok (by kernel_rfl) (pmA_S13_ok) (L0_ok _) 9 (On := (opens [])) (fun args t h => ?_)
  unfold onb_g at h
  split at h
  · rename_i _ e _ f _ a _ b _ c _ d
    simp only [Option.some.injEq] at h
    subst h
    refine ⟨[.ag [.v false (.int .i64 e), .v false (.int .i64 f)], .ag [.v false (.int .i64 a), .v false (.int .i64 b), .v false (.int .i64 c), .v false (.int .i64 d)]], rfl, fun fr w us h => h, fun r hr => ?_⟩
    simp only [Tr.val, Option.some.injEq] at hr
    subst hr
    rw [onb_tree]
    exact onb_val e f a b c d
  · cases h
noncomputable def pmA_S14 : Sums := addS 45 onb_g pmA_S13
theorem pmA_S14_ok : SumOK Try.prog pmA_S14 := addS_ok (onb_ok) (pmA_S13_ok)
end Go.Proofs.Ytjjmkmkllphecaa
