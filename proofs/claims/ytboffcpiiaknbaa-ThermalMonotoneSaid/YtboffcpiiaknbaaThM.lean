/-
  Layer 48: monotone.
-/
import Derived.Test.YtboffcpiiaknbaaProg
import Derived.Test.YtboffcpiiaknbaaFvX
import Derived.Test.YtboffcpiiaknbaaFl
namespace Go.Proofs.Ytboffcpiiaknbaa
open Go
set_option maxRecDepth 100000 in
theorem aw19_tree : evalF Try.prog S0 (opens []) L0 8 19 [] = .ret (.one (.v true (.bool true))) := by kernel_rfl
def thM_S2 : Sums := addS 19 gTrue S0
theorem thM_S2_ok : SumOK Try.prog thM_S2 := addS_ok (gTrue_ok (by kernel_rfl) (S0_ok _) (L0_ok _) aw19_tree) (S0_ok _)
def clamp_g : List AV → Option (Tr AV)
  | [.one (.v _ (.int .i64 n)), .one (.v _ (.int .i64 lo)), .one (.v _ (.int .i64 hi))] => some (.br (true) (.ret (.one (.v false (.int .i64 (max lo (min n hi)))))) (.bad 900))
  | _ => none
theorem clamp_ok : FunOK Try.prog 35 clamp_g := by
  refine fun_of_calls fun args t h r hr fr w us hus => ?_
  unfold clamp_g at h
  split at h
  · rename_i _ n _ lo _ hi
    simp only [Option.some.injEq] at h
    subst h
    obtain ⟨hc, hr⟩ := br_bad hr
    simp only [Tr.val, Option.some.injEq] at hr
    subst hr
    obtain ⟨_, _, rfl, e0, _, _, rfl, e1, _, _, rfl, e2, rfl⟩ := hus
    cases e0; cases e1; cases e2
    exact ⟨_, (num_Clamp n lo hi w).mono fun e w' h => ⟨h.1, h.2 ▸ Ext.refl _⟩, fun _ _ => rfl, rfl⟩
  · cases h
def thM_S3 : Sums := addS 35 clamp_g thM_S2
theorem thM_S3_ok : SumOK Try.prog thM_S3 := addS_ok (clamp_ok) (thM_S2_ok)
def floor_g : List AV → Option (Tr AV)
  | [.one (.v _ (.int .i64 n)), .one (.v _ (.int .i64 d))] => some (.br (decide (-9223372036854775808 ≤ n) && decide (n ≤ 9223372036854775807) && decide (0 < d) && decide (d ≤ 9223372036854775807)) (.ret (.tup [(false, [.v false (.int .i64 (n / d))]), (false, [.v false (.int .i64 0)])])) (.bad 900))
  | _ => none
theorem floor_ok : FunOK Try.prog 32 floor_g := by
  refine fun_of_calls fun args t h r hr fr w us hus => ?_
  unfold floor_g at h
  split at h
  · rename_i _ n _ d
    simp only [Option.some.injEq] at h
    subst h
    obtain ⟨hc, hr⟩ := br_bad hr
    simp only [Tr.val, Option.some.injEq] at hr
    subst hr
    obtain ⟨_, _, rfl, e0, _, _, rfl, e1, rfl⟩ := hus
    cases e0; cases e1
    exact ⟨_, (num_FloorP n d (by simp at hc; omega) (by simp at hc; omega) (by simp at hc; omega) (by simp at hc; omega) w).mono fun e w' h => ⟨h.1, h.2⟩, fun _ _ => tup2_is, rfl⟩
  · cases h
def thM_S4 : Sums := addS 32 floor_g thM_S3
theorem thM_S4_ok : SumOK Try.prog thM_S4 := addS_ok (floor_ok) (thM_S3_ok)
def thOk (p l mm a : Int) : Bool := bif bif bif bif bif decide (p ≥ (0 : Int)) then decide (p ≤ (1048576 : Int)) else false then bif decide (l ≥ (1 : Int)) then decide (l ≤ (65536 : Int)) else false else false then bif decide (mm ≥ l) then decide (mm ≤ (1048576 : Int)) else false else false then decide (a ≥ (-400000 : Int)) else false then decide (a ≤ (400000 : Int)) else false
def thS (p l mm a s d : Int) : Int := bif !thOk p l mm a then 0 else max (-1073741824) (min s 1073741824) + (max 0 (min d 255) * p - l * (max (-1073741824) (min s 1073741824) - a)) / mm
theorem thOk_of {p l mm a : Int} (h : thOk p l mm a = true) : 0 ≤ p ∧ p ≤ 1048576 ∧ 1 ≤ l ∧ l ≤ 65536 ∧ l ≤ mm ∧ mm ≤ 1048576 ∧ -400000 ≤ a ∧ a ≤ 400000 := by
  unfold thOk at h
  simp [Bool.cond_eq_ite] at h
  omega
set_option maxRecDepth 100000 in
theorem step_tree (p : Int) (l : Int) (mm : Int) (a : Int) (s : Int) (d : Int) : evalF Try.prog thM_S4 (opens []) L0 8 20 [.ag [.v false (.int .i64 p), .v false (.int .i64 l), .v false (.int .i64 mm), .v false (.int .i64 a)], .one (.v false (.int .i64 s)), .one (.v false (.int .i64 d))] = .br ((bif !thOk p l mm a then true else ((true) && ((true) && (decide ((-9223372036854775808 : Int) ≤ IntKind.wrap IntKind.i64 (IntKind.wrap IntKind.i64 (max (0 : Int) (min d (255 : Int)) * p) - IntKind.wrap IntKind.i64 (l * IntKind.wrap IntKind.i64 (max (-1073741824 : Int) (min s (1073741824 : Int)) - a)))) && decide (IntKind.wrap IntKind.i64 (IntKind.wrap IntKind.i64 (max (0 : Int) (min d (255 : Int)) * p) - IntKind.wrap IntKind.i64 (l * IntKind.wrap IntKind.i64 (max (-1073741824 : Int) (min s (1073741824 : Int)) - a))) ≤ (9223372036854775807 : Int)) && decide ((0 : Int) < mm) && decide (mm ≤ (9223372036854775807 : Int))))))) (.ret (.one (.v false (.int .i64 (bif !thOk p l mm a then (0 : Int) else IntKind.wrap IntKind.i64 (max (-1073741824 : Int) (min s (1073741824 : Int)) + IntKind.wrap IntKind.i64 (IntKind.wrap IntKind.i64 (max (0 : Int) (min d (255 : Int)) * p) - IntKind.wrap IntKind.i64 (l * IntKind.wrap IntKind.i64 (max (-1073741824 : Int) (min s (1073741824 : Int)) - a))) / mm)))))) (.bad 116) := by kernel_rfl
theorem step_val (p : Int) (l : Int) (mm : Int) (a : Int) (s : Int) (d : Int) (hc : (true) = true) : (.br ((bif !thOk p l mm a then true else ((true) && ((true) && (decide ((-9223372036854775808 : Int) ≤ IntKind.wrap IntKind.i64 (IntKind.wrap IntKind.i64 (max (0 : Int) (min d (255 : Int)) * p) - IntKind.wrap IntKind.i64 (l * IntKind.wrap IntKind.i64 (max (-1073741824 : Int) (min s (1073741824 : Int)) - a)))) && decide (IntKind.wrap IntKind.i64 (IntKind.wrap IntKind.i64 (max (0 : Int) (min d (255 : Int)) * p) - IntKind.wrap IntKind.i64 (l * IntKind.wrap IntKind.i64 (max (-1073741824 : Int) (min s (1073741824 : Int)) - a))) ≤ (9223372036854775807 : Int)) && decide ((0 : Int) < mm) && decide (mm ≤ (9223372036854775807 : Int))))))) (.ret (.one (.v false (.int .i64 (bif !thOk p l mm a then (0 : Int) else IntKind.wrap IntKind.i64 (max (-1073741824 : Int) (min s (1073741824 : Int)) + IntKind.wrap IntKind.i64 (IntKind.wrap IntKind.i64 (max (0 : Int) (min d (255 : Int)) * p) - IntKind.wrap IntKind.i64 (l * IntKind.wrap IntKind.i64 (max (-1073741824 : Int) (min s (1073741824 : Int)) - a))) / mm)))))) (.bad 116) : Tr AV).val = some (.one (.v false (.int .i64 (thS p l mm a s d)))) := by
  unfold thS
  cases hV : thOk p l mm a
  · rfl
  · obtain ⟨h1, h2, h3, h4, h5, h6, h7, h8⟩ := thOk_of hV
    obtain ⟨t, ht⟩ : ∃ t, max (-1073741824 : Int) (min s 1073741824) = t := ⟨_, rfl⟩
    obtain ⟨c, hcd⟩ : ∃ c, max (0 : Int) (min d 255) = c := ⟨_, rfl⟩
    have t1 : -1073741824 ≤ t ∧ t ≤ 1073741824 := by omega
    have c1 : 0 ≤ c ∧ c ≤ 255 := by omega
    rw [ht, hcd]
    have k1 : c * p ≤ 255 * p := Int.mul_le_mul_of_nonneg_right c1.2 h1
    have k0 : 0 ≤ c * p := Int.mul_nonneg c1.1 h1
    have q1 : l * (t - a) ≤ l * 1074141824 := Int.mul_le_mul_of_nonneg_left (by omega) (by omega)
    have q0 : l * (-1074141824) ≤ l * (t - a) := Int.mul_le_mul_of_nonneg_left (by omega) (by omega)
    have e1 : IntKind.i64.wrap (c * p) = c * p := IntWalk.i64_in _ ⟨by omega, by omega⟩
    have e2 : IntKind.i64.wrap (t - a) = t - a := IntWalk.i64_in _ ⟨by omega, by omega⟩
    have e3 : IntKind.i64.wrap (l * (t - a)) = l * (t - a) := IntWalk.i64_in _ ⟨by omega, by omega⟩
    have e4 : IntKind.i64.wrap (c * p - l * (t - a)) = c * p - l * (t - a) := IntWalk.i64_in _ ⟨by omega, by omega⟩
    obtain ⟨x, hx⟩ : ∃ x, c * p - l * (t - a) = x := ⟨_, rfl⟩
    have x1 : -80000000000000 ≤ x ∧ x ≤ 80000000000000 := by omega
    have g1 : x / mm ≤ 80000000000000 := Int.ediv_le_of_le_mul (by omega) (by omega)
    have g0 : -80000000000000 ≤ x / mm := Int.le_ediv_of_mul_le (by omega) (by omega)
    rw [e1, e2, e3, e4, hx]
    have e5 : IntKind.i64.wrap (t + x / mm) = t + x / mm := IntWalk.i64_in _ ⟨by omega, by omega⟩
    rw [e5]
    have b1 : decide ((-9223372036854775808 : Int) ≤ x) = true := decide_eq_true (by omega)
    have b2 : decide (x ≤ (9223372036854775807 : Int)) = true := decide_eq_true (by omega)
    have b3 : decide ((0 : Int) < mm) = true := decide_eq_true (by omega)
    have b4 : decide (mm ≤ (9223372036854775807 : Int)) = true := decide_eq_true (by omega)
    rw [b1, b2, b3, b4]
    rfl
def step_g : List AV → Option (Tr AV)
  | [.ag [.v _ (.int .i64 p), .v _ (.int .i64 l), .v _ (.int .i64 mm), .v _ (.int .i64 a)], .one (.v _ (.int .i64 s)), .one (.v _ (.int .i64 d))] => some (.br (true) (.ret (.one (.v false (.int .i64 (thS p l mm a s d))))) (.bad 900))
  | _ => none
theorem step_ok : FunOK Try.prog 20 step_g := by
  refine fun_ok (by kernel_rfl) (thM_S4_ok) (L0_ok _) 8 (On := (opens [])) (fun args t h => ?_)
  unfold step_g at h
  split at h
  · rename_i _ p _ l _ mm _ a _ s _ d
    simp only [Option.some.injEq] at h
    subst h
    refine ⟨[.ag [.v false (.int .i64 p), .v false (.int .i64 l), .v false (.int .i64 mm), .v false (.int .i64 a)], .one (.v false (.int .i64 s)), .one (.v false (.int .i64 d))], rfl, fun fr w us h => h, fun r hr => ?_⟩
    obtain ⟨hc, hr⟩ := br_bad hr
    simp only [Tr.val, Option.some.injEq] at hr
    subst hr
    rw [step_tree]
    exact step_val p l mm a s d hc
  · cases h
def thM_S5 : Sums := addS 20 step_g thM_S4
theorem thM_S5_ok : SumOK Try.prog thM_S5 := addS_ok (step_ok) (thM_S4_ok)
theorem th_shape (x t l a mm : Int) (h : 0 < mm) : t + (x - l * (t - a)) / mm = ((mm - l) * t + (x + l * a)) / mm := by
  rw [Int.add_comm, ← Int.add_mul_ediv_right _ _ (by omega : mm ≠ 0)]
  congr 1
  grind
theorem th_mono {p l mm a s t d e : Int} (h : s ≤ t) (hd : d ≤ e) : thS p l mm a s d ≤ thS p l mm a t e := by
  unfold thS
  cases hV : thOk p l mm a
  · exact Int.le_refl _
  · obtain ⟨h1, h2, h3, h4, h5, h6, h7, h8⟩ := thOk_of hV
    obtain ⟨s', hs⟩ : ∃ t, max (-1073741824 : Int) (min s 1073741824) = t := ⟨_, rfl⟩
    obtain ⟨t', ht⟩ : ∃ t', max (-1073741824 : Int) (min t 1073741824) = t' := ⟨_, rfl⟩
    obtain ⟨d', hd'⟩ : ∃ c, max (0 : Int) (min d 255) = c := ⟨_, rfl⟩
    obtain ⟨e', he'⟩ : ∃ c, max (0 : Int) (min e 255) = c := ⟨_, rfl⟩
    rw [hs, ht, hd', he']
    show s' + _ ≤ t' + _
    rw [th_shape _ _ _ _ _ (by omega), th_shape _ _ _ _ _ (by omega)]
    have k1 : (mm - l) * s' ≤ (mm - l) * t' := Int.mul_le_mul_of_nonneg_left (by omega) (by omega)
    have k2 : d' * p ≤ e' * p := Int.mul_le_mul_of_nonneg_right (by omega) h1
    exact Int.ediv_le_ediv (by omega) (by omega)
set_option maxRecDepth 100000 in
theorem law_ThermalMonotone_tree (p : Int) (l : Int) (mm : Int) (a : Int) (s : Int) (t : Int) (low : Int) (high : Int) : evalF Try.prog thM_S5 (opens []) L0 8 7 [.ag [.v false (.int .i64 p), .v false (.int .i64 l), .v false (.int .i64 mm), .v false (.int .i64 a), .v false (.int .i64 s), .v false (.int .i64 t), .v false (.int .i64 low), .v false (.int .i64 high)]] = .br (((true) && ((true) && (bif decide (thS p l mm a (if t < s then t else s) (if high < low then high else low) ≤ thS p l mm a (if t > s then t else s) (if high < low then high else low)) then ((true) && (true)) else (bif false then true else true))))) (.ret (.one (.v false (.bool (bif decide (thS p l mm a (if t < s then t else s) (if high < low then high else low) ≤ thS p l mm a (if t > s then t else s) (if high < low then high else low)) then bif decide (thS p l mm a (if t < s then t else s) (if high < low then high else low) ≤ thS p l mm a (if t < s then t else s) (if high > low then high else low)) then true else false else bif false then true else false))))) (.bad 116) := by kernel_rfl
set_option maxHeartbeats 4000000 in
theorem law_ThermalMonotone_all (p : Int) (l : Int) (mm : Int) (a : Int) (s : Int) (t : Int) (low : Int) (high : Int) (r0 : Ty.InR (.prod (.prod (.int .i64) (.prod (.int .i64) (.prod (.int .i64) (.int .i64)))) (.prod (.int .i64) (.prod (.int .i64) (.prod (.int .i64) (.int .i64))))) ((p, (l, (mm, a))), (s, (t, (low, high)))))  : Tr.all (fun r => ∃ kn, r = AV.one (.v kn (.bool true))) (.br (((true) && ((true) && (bif decide (thS p l mm a (if t < s then t else s) (if high < low then high else low) ≤ thS p l mm a (if t > s then t else s) (if high < low then high else low)) then ((true) && (true)) else (bif false then true else true))))) (.ret (.one (.v false (.bool (bif decide (thS p l mm a (if t < s then t else s) (if high < low then high else low) ≤ thS p l mm a (if t > s then t else s) (if high < low then high else low)) then bif decide (thS p l mm a (if t < s then t else s) (if high < low then high else low) ≤ thS p l mm a (if t < s then t else s) (if high > low then high else low)) then true else false else bif false then true else false))))) (.bad 116)) := by
  have A1 : thS p l mm a (if t < s then t else s) (if high < low then high else low) ≤ thS p l mm a (if t > s then t else s) (if high < low then high else low) := th_mono (by split <;> split <;> omega) (Int.le_refl _)
  have A2 : thS p l mm a (if t < s then t else s) (if high < low then high else low) ≤ thS p l mm a (if t < s then t else s) (if high > low then high else low) := th_mono (Int.le_refl _) (by split <;> split <;> omega)
  rw [decide_eq_true A1, decide_eq_true A2]
  exact ⟨fun _ => ⟨false, rfl⟩, fun h => by cases h⟩
set_option maxHeartbeats 4000000 in
theorem law_ThermalMonotone (v0 : Value) (x0 : ((.prod (.prod (.int .i64) (.prod (.int .i64) (.prod (.int .i64) (.int .i64)))) (.prod (.int .i64) (.prod (.int .i64) (.prod (.int .i64) (.int .i64))))) : Ty).den) (r0 : Ty.InR (.prod (.prod (.int .i64) (.prod (.int .i64) (.prod (.int .i64) (.int .i64)))) (.prod (.int .i64) (.prod (.int .i64) (.prod (.int .i64) (.int .i64))))) x0) (z_w : World) (i0 : (AV.ag (Ty.cells false (.prod (.prod (.int .i64) (.prod (.int .i64) (.prod (.int .i64) (.int .i64)))) (.prod (.int .i64) (.prod (.int .i64) (.prod (.int .i64) (.int .i64))))) x0)).is [] (fun _ => none) (fun b => b < z_w.heap.size) z_w v0) : Calls Try.prog 7 #[v0] z_w fun e w' => e = .returned (.bool true) ∧ Ext z_w w' := by
  obtain ⟨⟨p, ⟨l, ⟨mm, a⟩⟩⟩, ⟨s, ⟨t, ⟨low, high⟩⟩⟩⟩ := x0
  refine law_of_tree (by kernel_rfl) (thM_S5_ok) (L0_ok _) (law_ThermalMonotone_tree p l mm a s t low high) (law_ThermalMonotone_all p l mm a s t low high r0 ) rfl z_w _ _ (fun _ h => h) ⟨_, _, rfl, i0, rfl⟩
end Go.Proofs.Ytboffcpiiaknbaa
