/-
  Layer 28: what divides, what is more, what is turned.
-/
import Derived.Test.YtfdamfapnpgmjaaProg
import Derived.Test.YtfdamfapnpgmjaaFvX
import Derived.Test.YtfdamfapnpgmjaaFvZ
import Derived.Test.YtfdamfapnpgmjaaAut
import Derived.Test.YtfdamfapnpgmjaaRd
import Derived.Test.YtfdamfapnpgmjaaPl
import Derived.Test.YtfdamfapnpgmjaaScn
import Derived.Test.YtfdamfapnpgmjaaRegM
import Derived.Test.YtfdamfapnpgmjaaRegF
import Derived.Test.YtfdamfapnpgmjaaRgA
import Derived.Test.YtfdamfapnpgmjaaRgB
import Derived.Test.YtfdamfapnpgmjaaRgC
import Derived.Test.YtfdamfapnpgmjaaRgD
import Derived.Test.YtfdamfapnpgmjaaRgE
namespace Go.Proofs.Ytfdamfapnpgmjaa
open Go
theorem same_self {A : Rg} (h : valG A) : sameG A A = true := by
  unfold sameG eqRg
  rw [valGB_t h, decide_eq_true rfl]; rfl
theorem lay_in {L : List Rg} {i : Int} (h0 : 0 ≤ i) (h1 : i < (L.length : Int)) (hv : valGB (L.getD i.toNat []) = true) : layG L i = L.getD i.toNat [] := by
  unfold layG
  rw [decide_eq_true h0, decide_eq_true h1, hv]; rfl
theorem div_u (L : List Rg) (i t b : Int) : opR 2 (skF L i t b) (skS L i t b) = layG L i := val_ext (opR_val _ _ _) (layG_val L i) fun x y => by
  rw [opR_mem (skF_val L i t b) (skS_val L i t b), opE_2, skF_mem]
  cases h : memG (skS L i t b) x y
  · simp
  · rw [sk_sub L i t b x y h]; rfl
theorem div_i (L : List Rg) (i t b : Int) : opR 1 (skF L i t b) (skS L i t b) = [] := empty_G (opR_val _ _ _) fun x y => by
  rw [opR_mem (skF_val L i t b) (skS_val L i t b), opE_1, skF_mem]
  cases memG (layG L i) x y <;> cases memG (skS L i t b) x y <;> rfl
set_option maxRecDepth 100000 in
theorem law_SkinDivides_tree (L : (Ty.list (.list (.prod (.int .i64) (.list (.prod (.int .i64) (.int .i64)))))).den) (i : Int) (t : Int) (b : Int) : evalF Try.prog rgE_S58 (opens []) rgE_L56 9 5 [.ag [.d false false (.list (.prod (.int .i64) (.list (.prod (.int .i64) (.int .i64))))) L, .v false (.int .i64 i), .v false (.int .i64 t), .v false (.int .i64 b)]] = .br ((bif bif bif !smL L then true else decide (i < (0 : Int)) then true else decide (i ≥ (↑(List.length L) : Int)) then true else ((decide ((0 : Int) ≤ i) && decide (i < (↑(List.length L) : Int))) && ((szG (el_lilii L i)) && (bif !valGB (el_lilii L i) then true else ((szL L) && ((szG (skF L i t b) && szG (skS L i t b)) && ((decide ((0 : Int) ≤ i) && decide (i < (↑(List.length L) : Int))) && ((szG (opR (2 : Int) (skF L i t b) (skS L i t b)) && szG (el_lilii L i)) && (bif sameG (opR (2 : Int) (skF L i t b) (skS L i t b)) (el_lilii L i) then ((szG (skF L i t b)) && (bif valGB (skF L i t b) then ((szG (skS L i t b)) && (bif valGB (skS L i t b) then ((szG (skF L i t b) && szG (skS L i t b)) && (szG (opR (1 : Int) (skF L i t b) (skS L i t b)))) else true)) else true)) else true)))))))))) (.ret (.one (.v false (.bool (bif bif bif !smL L then true else decide (i < (0 : Int)) then true else decide (i ≥ (↑(List.length L) : Int)) then true else bif !valGB (el_lilii L i) then true else bif sameG (opR (2 : Int) (skF L i t b) (skS L i t b)) (el_lilii L i) then bif valGB (skF L i t b) then bif valGB (skS L i t b) then bif cntV (opR (1 : Int) (skF L i t b) (skS L i t b)) == (0 : Int) then true else false else false else false else false))))) (.bad 116) := by kernel_rfl
set_option maxHeartbeats 4000000 in
theorem law_SkinDivides_all (L : (Ty.list (.list (.prod (.int .i64) (.list (.prod (.int .i64) (.int .i64)))))).den) (i : Int) (t : Int) (b : Int) (r0 : Ty.InR (.prod (.list (.list (.prod (.int .i64) (.list (.prod (.int .i64) (.int .i64)))))) (.prod (.int .i64) (.prod (.int .i64) (.int .i64)))) (L, (i, (t, b))))  : Tr.all (fun r => ∃ kn, r = AV.one (.v kn (.bool true))) (.br ((bif bif bif !smL L then true else decide (i < (0 : Int)) then true else decide (i ≥ (↑(List.length L) : Int)) then true else ((decide ((0 : Int) ≤ i) && decide (i < (↑(List.length L) : Int))) && ((szG (el_lilii L i)) && (bif !valGB (el_lilii L i) then true else ((szL L) && ((szG (skF L i t b) && szG (skS L i t b)) && ((decide ((0 : Int) ≤ i) && decide (i < (↑(List.length L) : Int))) && ((szG (opR (2 : Int) (skF L i t b) (skS L i t b)) && szG (el_lilii L i)) && (bif sameG (opR (2 : Int) (skF L i t b) (skS L i t b)) (el_lilii L i) then ((szG (skF L i t b)) && (bif valGB (skF L i t b) then ((szG (skS L i t b)) && (bif valGB (skS L i t b) then ((szG (skF L i t b) && szG (skS L i t b)) && (szG (opR (1 : Int) (skF L i t b) (skS L i t b)))) else true)) else true)) else true)))))))))) (.ret (.one (.v false (.bool (bif bif bif !smL L then true else decide (i < (0 : Int)) then true else decide (i ≥ (↑(List.length L) : Int)) then true else bif !valGB (el_lilii L i) then true else bif sameG (opR (2 : Int) (skF L i t b) (skS L i t b)) (el_lilii L i) then bif valGB (skF L i t b) then bif valGB (skS L i t b) then bif cntV (opR (1 : Int) (skF L i t b) (skS L i t b)) == (0 : Int) then true else false else false else false else false))))) (.bad 116)) := by
  obtain ⟨K, rfl⟩ : ∃ K : List Rg, K = L := ⟨L, rfl⟩
  have e : el_lilii K i = K.getD i.toNat [] := rfl
  simp only [e]
  cases hs : smL K
  · simp only [Bool.not_false, cond_true]
    exact ⟨fun _ => ⟨_, rfl⟩, fun h => by cases h⟩
  · obtain ⟨hl, hz⟩ := smL_sz hs
    by_cases h1 : i < 0
    · have d1 : decide (i < (0 : Int)) = true := decide_eq_true h1
      simp only [d1, Bool.not_true, cond_true, cond_false]
      exact ⟨fun _ => ⟨_, rfl⟩, fun h => by cases h⟩
    · have d1 : decide (i < (0 : Int)) = false := decide_eq_false h1
      by_cases h2 : i ≥ (K.length : Int)
      · have d2 : decide (i ≥ (K.length : Int)) = true := decide_eq_true h2
        simp only [d1, d2, Bool.not_true, cond_true, cond_false]
        exact ⟨fun _ => ⟨_, rfl⟩, fun h => by cases h⟩
      · have d2 : decide (i ≥ (K.length : Int)) = false := decide_eq_false h2
        have d3 : decide ((0 : Int) ≤ i) = true := decide_eq_true (by omega)
        have d4 : decide (i < (K.length : Int)) = true := decide_eq_true (by omega)
        have sz := szL_get hz i.toNat
        cases hv : valGB (K.getD i.toNat [])
        · simp only [d1, d2, d3, d4, sz, Bool.not_true, Bool.not_false, Bool.and_self, cond_true, cond_false]
          exact ⟨fun _ => ⟨_, rfl⟩, fun h => by cases h⟩
        · have hu : opR 2 (skF K i t b) (skS K i t b) = K.getD i.toNat [] := (div_u K i t b).trans (lay_in (by omega) (by omega) hv)
          have hi := div_i K i t b
          have sF := val_sz (skF_val K i t b)
          have sS := val_sz (skS_val K i t b)
          have vF := valGB_t (skF_val K i t b)
          have vS := valGB_t (skS_val K i t b)
          have ss := same_self (valGB_iff.1 hv)
          simp only [d1, d2, d3, d4, sz, hz, hu, hi, sF, sS, vF, vS, ss, sz_nil, cntV_nil, beq_self_eq_true, Bool.not_true, Bool.and_self, cond_true, cond_false]
          exact ⟨fun _ => ⟨_, rfl⟩, fun h => by cases h⟩
set_option maxHeartbeats 4000000 in
theorem law_SkinDivides (v0 : Value) (x0 : ((.prod (.list (.list (.prod (.int .i64) (.list (.prod (.int .i64) (.int .i64)))))) (.prod (.int .i64) (.prod (.int .i64) (.int .i64)))) : Ty).den) (r0 : Ty.InR (.prod (.list (.list (.prod (.int .i64) (.list (.prod (.int .i64) (.int .i64)))))) (.prod (.int .i64) (.prod (.int .i64) (.int .i64)))) x0) (z_w : World) (i0 : (AV.ag (Ty.cells false (.prod (.list (.list (.prod (.int .i64) (.list (.prod (.int .i64) (.int .i64)))))) (.prod (.int .i64) (.prod (.int .i64) (.int .i64)))) x0)).is [] (fun _ => none) (fun b => b < z_w.heap.size) z_w v0) : Calls Try.prog 5 #[v0] z_w fun e w' => e = .returned (.bool true) ∧ Ext z_w w' := by
  obtain ⟨L, ⟨i, ⟨t, b⟩⟩⟩ := x0
  refine law_of_tree (by kernel_rfl) (rgE_S58_ok) (rgE_L56_ok) (law_SkinDivides_tree L i t b) (law_SkinDivides_all L i t b r0 ) rfl z_w _ _ (fun _ h => h) ⟨_, _, rfl, i0, rfl⟩
theorem within_of {A B : Rg} (ha : valG A) (hb : valG B) (h : ∀ x y, memG A x y = true → memG B x y = true) : withinG A B = true := by
  unfold withinG
  rw [valGB_t ha, valGB_t hb, decide_eq_true ((sub_iff ha hb).2 h)]; rfl
theorem sk_mono {L : List Rg} {i t b t' b' : Int} (h1 : t ≤ t') (h2 : b ≤ b') : withinG (skS L i t' b') (skS L i t b) = true := within_of (skS_val L i t' b') (skS_val L i t b) fun x y h => by
  have a1 : skN L t ≤ skN L t' := by unfold skN; omega
  have a2 : skN L b ≤ skN L b' := by unfold skN; omega
  obtain ⟨m1, m2, m3⟩ := (skS_mem L i t' b' x y).1 h
  exact (skS_mem L i t b x y).2 ⟨m1, fun k hk => m2 k (by omega), fun k hk => m3 k (by omega)⟩
theorem sk_zero (L : List Rg) (i : Int) : skS L i 0 (-1) = layG L i := by
  have e1 : skN L 0 = 0 := by unfold skN; omega
  have e2 : skN L (-1) = 0 := by unfold skN; omega
  unfold skS
  rw [e1, e2]; rfl
theorem sk_in (L : List Rg) (i t b : Int) : withinG (skS L i t b) (skS L i 0 (-1)) = true := by
  rw [sk_zero]
  exact within_of (skS_val L i t b) (layG_val L i) fun x y h => sk_sub L i t b x y h
theorem skF_zero (L : List Rg) (i : Int) : skF L i 0 (-1) = [] := by
  unfold skF
  rw [sk_zero, op0_self (layG_val L i)]
set_option maxRecDepth 100000 in
theorem law_SkinMore_tree (L : (Ty.list (.list (.prod (.int .i64) (.list (.prod (.int .i64) (.int .i64)))))).den) (i : Int) (t : Int) (b : Int) (ab : Int) (be : Int) : evalF Try.prog rgE_S58 (opens []) rgE_L56 9 6 [.ag [.d false false (.list (.prod (.int .i64) (.list (.prod (.int .i64) (.int .i64))))) L, .v false (.int .i64 i), .v false (.int .i64 t), .v false (.int .i64 b)], .one (.v false (.int .u8 ab)), .one (.v false (.int .u8 be))] = .br ((bif bif bif bif bif !smL L then true else decide (t < (-1000 : Int)) then true else decide (t > (1000 : Int)) then true else decide (b < (-1000 : Int)) then true else decide (b > (1000 : Int)) then true else ((szL L) && ((szL L) && ((szL L) && ((szG (skS L i (IntKind.wrap IntKind.i64 (t + IntKind.wrap IntKind.i64 ab)) (IntKind.wrap IntKind.i64 (b + IntKind.wrap IntKind.i64 be))) && szG (skS L i t b)) && (bif withinG (skS L i (IntKind.wrap IntKind.i64 (t + IntKind.wrap IntKind.i64 ab)) (IntKind.wrap IntKind.i64 (b + IntKind.wrap IntKind.i64 be))) (skS L i t b) then ((szG (skS L i t b) && szG (skS L i (0 : Int) (-1 : Int))) && (bif withinG (skS L i t b) (skS L i (0 : Int) (-1 : Int)) then (szG (skF L i (0 : Int) (-1 : Int))) else true)) else true))))))) (.ret (.one (.v false (.bool (bif bif bif bif bif !smL L then true else decide (t < (-1000 : Int)) then true else decide (t > (1000 : Int)) then true else decide (b < (-1000 : Int)) then true else decide (b > (1000 : Int)) then true else bif withinG (skS L i (IntKind.wrap IntKind.i64 (t + IntKind.wrap IntKind.i64 ab)) (IntKind.wrap IntKind.i64 (b + IntKind.wrap IntKind.i64 be))) (skS L i t b) then bif withinG (skS L i t b) (skS L i (0 : Int) (-1 : Int)) then bif cntV (skF L i (0 : Int) (-1 : Int)) == (0 : Int) then true else false else false else false))))) (.bad 116) := by kernel_rfl
set_option maxHeartbeats 4000000 in
theorem law_SkinMore_all (L : (Ty.list (.list (.prod (.int .i64) (.list (.prod (.int .i64) (.int .i64)))))).den) (i : Int) (t : Int) (b : Int) (ab : Int) (be : Int) (r0 : Ty.InR (.prod (.list (.list (.prod (.int .i64) (.list (.prod (.int .i64) (.int .i64)))))) (.prod (.int .i64) (.prod (.int .i64) (.int .i64)))) (L, (i, (t, b)))) (l1 : 0 ≤ ab) (g1 : ab ≤ 255) (l2 : 0 ≤ be) (g2 : be ≤ 255) : Tr.all (fun r => ∃ kn, r = AV.one (.v kn (.bool true))) (.br ((bif bif bif bif bif !smL L then true else decide (t < (-1000 : Int)) then true else decide (t > (1000 : Int)) then true else decide (b < (-1000 : Int)) then true else decide (b > (1000 : Int)) then true else ((szL L) && ((szL L) && ((szL L) && ((szG (skS L i (IntKind.wrap IntKind.i64 (t + IntKind.wrap IntKind.i64 ab)) (IntKind.wrap IntKind.i64 (b + IntKind.wrap IntKind.i64 be))) && szG (skS L i t b)) && (bif withinG (skS L i (IntKind.wrap IntKind.i64 (t + IntKind.wrap IntKind.i64 ab)) (IntKind.wrap IntKind.i64 (b + IntKind.wrap IntKind.i64 be))) (skS L i t b) then ((szG (skS L i t b) && szG (skS L i (0 : Int) (-1 : Int))) && (bif withinG (skS L i t b) (skS L i (0 : Int) (-1 : Int)) then (szG (skF L i (0 : Int) (-1 : Int))) else true)) else true))))))) (.ret (.one (.v false (.bool (bif bif bif bif bif !smL L then true else decide (t < (-1000 : Int)) then true else decide (t > (1000 : Int)) then true else decide (b < (-1000 : Int)) then true else decide (b > (1000 : Int)) then true else bif withinG (skS L i (IntKind.wrap IntKind.i64 (t + IntKind.wrap IntKind.i64 ab)) (IntKind.wrap IntKind.i64 (b + IntKind.wrap IntKind.i64 be))) (skS L i t b) then bif withinG (skS L i t b) (skS L i (0 : Int) (-1 : Int)) then bif cntV (skF L i (0 : Int) (-1 : Int)) == (0 : Int) then true else false else false else false))))) (.bad 116)) := by
  obtain ⟨K, rfl⟩ : ∃ K : List Rg, K = L := ⟨L, rfl⟩
  cases hs : smL K
  · simp only [Bool.not_false, cond_true]
    exact ⟨fun _ => ⟨_, rfl⟩, fun h => by cases h⟩
  · obtain ⟨hl, hz⟩ := smL_sz hs
    by_cases h1 : t < -1000
    · have d1 : decide (t < (-1000 : Int)) = true := decide_eq_true h1
      simp only [d1, Bool.not_true, cond_true, cond_false]
      exact ⟨fun _ => ⟨_, rfl⟩, fun h => by cases h⟩
    have d1 : decide (t < (-1000 : Int)) = false := decide_eq_false h1
    by_cases h2 : t > 1000
    · have d2 : decide (t > (1000 : Int)) = true := decide_eq_true h2
      simp only [d1, d2, Bool.not_true, cond_true, cond_false]
      exact ⟨fun _ => ⟨_, rfl⟩, fun h => by cases h⟩
    have d2 : decide (t > (1000 : Int)) = false := decide_eq_false h2
    by_cases h3 : b < -1000
    · have d3 : decide (b < (-1000 : Int)) = true := decide_eq_true h3
      simp only [d1, d2, d3, Bool.not_true, cond_true, cond_false]
      exact ⟨fun _ => ⟨_, rfl⟩, fun h => by cases h⟩
    have d3 : decide (b < (-1000 : Int)) = false := decide_eq_false h3
    by_cases h4 : b > 1000
    · have d4 : decide (b > (1000 : Int)) = true := decide_eq_true h4
      simp only [d1, d2, d3, d4, Bool.not_true, cond_true, cond_false]
      exact ⟨fun _ => ⟨_, rfl⟩, fun h => by cases h⟩
    have d4 : decide (b > (1000 : Int)) = false := decide_eq_false h4
    have w1 : IntKind.wrap IntKind.i64 ab = ab := wid (by omega) (by omega)
    have w2 : IntKind.wrap IntKind.i64 be = be := wid (by omega) (by omega)
    have w3 : IntKind.wrap IntKind.i64 (t + ab) = t + ab := wid (by omega) (by omega)
    have w4 : IntKind.wrap IntKind.i64 (b + be) = b + be := wid (by omega) (by omega)
    have m1 := sk_mono (L := K) (i := i) (t := t) (b := b) (t' := t + ab) (b' := b + be) (by omega) (by omega)
    have m2 := sk_in K i t b
    have m3 := skF_zero K i
    have s1 := val_sz (skS_val K i t b)
    have s2 := val_sz (skS_val K i (t + ab) (b + be))
    have s3 := val_sz (skS_val K i 0 (-1))
    simp only [d1, d2, d3, d4, hz, w1, w2, w3, w4, m1, m2, m3, s1, s2, s3, sz_nil, cntV_nil, beq_self_eq_true, Bool.not_true, Bool.and_self, cond_true, cond_false]
    exact ⟨fun _ => ⟨_, rfl⟩, fun h => by cases h⟩
set_option maxHeartbeats 4000000 in
theorem law_SkinMore (v0 : Value) (x0 : ((.prod (.list (.list (.prod (.int .i64) (.list (.prod (.int .i64) (.int .i64)))))) (.prod (.int .i64) (.prod (.int .i64) (.int .i64)))) : Ty).den) (r0 : Ty.InR (.prod (.list (.list (.prod (.int .i64) (.list (.prod (.int .i64) (.int .i64)))))) (.prod (.int .i64) (.prod (.int .i64) (.int .i64)))) x0) (ab : Int) (l1 : 0 ≤ ab) (g1 : ab ≤ 255) (be : Int) (l2 : 0 ≤ be) (g2 : be ≤ 255) (z_w : World) (i0 : (AV.ag (Ty.cells false (.prod (.list (.list (.prod (.int .i64) (.list (.prod (.int .i64) (.int .i64)))))) (.prod (.int .i64) (.prod (.int .i64) (.int .i64)))) x0)).is [] (fun _ => none) (fun b => b < z_w.heap.size) z_w v0) : Calls Try.prog 6 #[v0, .int .u8 ab, .int .u8 be] z_w fun e w' => e = .returned (.bool true) ∧ Ext z_w w' := by
  obtain ⟨L, ⟨i, ⟨t, b⟩⟩⟩ := x0
  refine law_of_tree (by kernel_rfl) (rgE_S58_ok) (rgE_L56_ok) (law_SkinMore_tree L i t b ab be) (law_SkinMore_all L i t b ab be r0 l1 g1 l2 g2) rfl z_w _ _ (fun _ h => h) ⟨_, _, rfl, i0, ⟨_, _, rfl, rfl, ⟨_, _, rfl, rfl, rfl⟩⟩⟩
abbrev tu_U : Type := Bool × Int × (Ty.list (.list (.prod (.int .i64) (.list (.prod (.int .i64) (.int .i64)))))).den × Int × Int × Int
abbrev tu_V : Type := Int × (Ty.list (.list (.prod (.int .i64) (.list (.prod (.int .i64) (.int .i64)))))).den
noncomputable def tu_St (u : tu_U) (v : tu_V) : Stt := ⟨[.one .junk, .one (.p 0 0), .one (.v false (.bool u.1)), .one (.v false (.int .i64 u.2.1)), .one (.s false 24 0 (none)), .one (.v false (.int .i64 v.1)), .one .junk, .one .junk, .one .junk, .one .junk, .one .junk, .one .junk, .one .junk, .one .junk, .one .junk, .one .junk, .one .junk, .one .junk, .one .junk, .one .junk, .one .junk, .one .junk, .one .junk, .one .junk, .one .junk, .one .junk, .one .junk, .one .junk, .one .junk, .one .junk, .one .junk, .one .junk, .one .junk, .one .junk, .one .junk, .one .junk, .one .junk, .one .junk, .one .junk, .one .junk, .one .junk, .one .junk, .one .junk, .one .junk, .one .junk, .one .junk, .one .junk, .one .junk, .one .junk, .one .junk, .one .junk, .one .junk, .one .junk, .one .junk, .one .junk, .one .junk, .one .junk, .one .junk, .one .junk, .one .junk, .one .junk, .one .junk, .one .junk, .one .junk, .one .junk, .one .junk, .one .junk, .one .junk, .one .junk, .one .junk, .one .junk, .one .junk, .one .junk, .one .junk, .one .junk, .one .junk, .one .junk, .one .junk, .one .junk, .one .junk, .one .junk, .one .junk, .one .junk, .one .junk, .one .junk, .one .junk], [(24, .row true false false 29 (.list (.prod (.int .i64) (.list (.prod (.int .i64) (.int .i64))))) v.2), (0, .cells [.d false false (.list (.prod (.int .i64) (.list (.prod (.int .i64) (.int .i64))))) u.2.2.1, .v false (.int .i64 u.2.2.2.1), .v false (.int .i64 u.2.2.2.2.1), .v false (.int .i64 u.2.2.2.2.2)])], 1027⟩
noncomputable def tu_step (u : tu_U) (v : tu_V) : Tr (tu_V ⊕ (Nat × tu_V)) :=
  match u, v with
  | (_, q1, q4, _, _, _), (q2, q3) => .br (decide (q2 < q1)) (.br (decide ((0 : Int) ≤ q2) && decide (q2 < (↑(List.length q4) : Int))) (.br (decide ((0 : Int) ≤ IntKind.wrap IntKind.i64 (IntKind.wrap IntKind.i64 (q1 - (1 : Int)) - q2)) && decide (IntKind.wrap IntKind.i64 (IntKind.wrap IntKind.i64 (q1 - (1 : Int)) - q2) < (↑(List.length q3) : Int))) (.br (decide (Int.toNat (IntKind.wrap IntKind.i64 (IntKind.wrap IntKind.i64 (q1 - (1 : Int)) - q2)) < List.length q3)) (.ret (.inl (IntKind.wrap IntKind.i64 (q2 + (1 : Int)), List.set q3 (Int.toNat (IntKind.wrap IntKind.i64 (IntKind.wrap IntKind.i64 (q1 - (1 : Int)) - q2))) (el_lilii q4 q2)))) (.bad 19)) (.bad 31)) (.bad 29)) (.ret (.inr (0, (q2, q3))))
set_option maxRecDepth 100000 in
set_option maxHeartbeats 4000000 in
theorem tu_step_eq : ∀ (u : tu_U) (v : tu_V), (evalC Try.prog (evalB Try.prog rgE_S58 (opens []) rgE_L56 7).1 (evalB Try.prog rgE_S58 (opens []) rgE_L56 7).2 (opens []) (rgE_L56 7) 100000 (0 :: [0, 1, 0, 1, 1, 1, 1]) (loopOf (bodyOf Try.prog 7) [1, 1, 1, 1, 0, 1, 0]) (tu_St u v) []).bind (finF [0, 6, 7, 8, 9, 10, 11, 12, 13, 14, 15, 16, 17, 18, 19, 20, 21, 22, 23, 24, 25, 26, 27, 28, 29, 30, 31, 32, 33, 34, 35, 36, 37, 38, 39, 40, 41, 42, 43, 44, 45, 46, 47, 48, 49, 50, 51, 52, 53, 54, 55, 56, 57, 58, 59, 60, 61, 62, 63, 64, 65, 66, 67, 68, 69, 70, 71, 72, 73, 74, 75, 76, 77, 78, 79, 80, 81, 82, 83, 84, 85] [] [24, 0] [] 1027) = (tu_step u v).bind (outA (tu_St u) [.exit 0]) := by
  rintro ⟨q0, q1, q4, q5, q6, q7⟩ ⟨q2, q3⟩
  kernel_rfl
noncomputable def tu_rd (b : Bool) (o1 : Option AV) (o2 : Option AV) (o3 : Option AV) (o4 : Option AV) (o5 : Option AV) (own : Own) : Option (tu_U × tu_V) := zrT b <| zrO o1 fun za1 => zrA1 za1 fun zc2 => zrP 0 0 zc2 <| zrO o2 fun za3 => zrA1 za3 fun zc4 => zrB zc4 fun q0 => zrO o3 fun za5 => zrA1 za5 fun zc6 => zrI .i64 zc6 fun q1 => zrO o4 fun za7 => zrA1 za7 fun zc8 => zrSl 24 0 (none) zc8 <| zrO o5 fun za9 => zrA1 za9 fun zc10 => zrI .i64 zc10 fun q2 => zrL own fun zq11 zw12 => zrKey 24 zq11 fun zk13 => zrR true 29 (.list (.prod (.int .i64) (.list (.prod (.int .i64) (.int .i64))))) zk13 fun q3 => zrL zw12 fun zq14 zw15 => zrKey 0 zq14 fun zk16 => zrC zk16 fun zl17 => zrL zl17 fun zc18 zr19 => zrD (.list (.prod (.int .i64) (.list (.prod (.int .i64) (.int .i64))))) zc18 fun q4 => zrL zr19 fun zc20 zr21 => zrI .i64 zc20 fun q5 => zrL zr21 fun zc22 zr23 => zrI .i64 zc22 fun q6 => zrL zr23 fun zc24 zr25 => zrI .i64 zc24 fun q7 => zrN zr25 <| zrN zw15 <| some ((q0, q1, q4, q5, q6, q7), (q2, q3))
noncomputable def tu_can (st : Stt) : Stt := canA [0, 6, 7, 8, 9, 10, 11, 12, 13, 14, 15, 16, 17, 18, 19, 20, 21, 22, 23, 24, 25, 26, 27, 28, 29, 30, 31, 32, 33, 34, 35, 36, 37, 38, 39, 40, 41, 42, 43, 44, 45, 46, 47, 48, 49, 50, 51, 52, 53, 54, 55, 56, 57, 58, 59, 60, 61, 62, 63, 64, 65, 66, 67, 68, 69, 70, 71, 72, 73, 74, 75, 76, 77, 78, 79, 80, 81, 82, 83, 84, 85] [] [24, 0] [] 1027 st
noncomputable def tu_cok (st : Stt) : Bool := canAok [0, 6, 7, 8, 9, 10, 11, 12, 13, 14, 15, 16, 17, 18, 19, 20, 21, 22, 23, 24, 25, 26, 27, 28, 29, 30, 31, 32, 33, 34, 35, 36, 37, 38, 39, 40, 41, 42, 43, 44, 45, 46, 47, 48, 49, 50, 51, 52, 53, 54, 55, 56, 57, 58, 59, 60, 61, 62, 63, 64, 65, 66, 67, 68, 69, 70, 71, 72, 73, 74, 75, 76, 77, 78, 79, 80, 81, 82, 83, 84, 85] [] [24, 0] [] 1027 st
noncomputable def tu_read (st : Stt) : Option (tu_U × tu_V) := tu_rd (tu_cok st && (staysA [] [24, 0] st.own && juAll [0, 6, 7, 8, 9, 10, 11, 12, 13, 14, 15, 16, 17, 18, 19, 20, 21, 22, 23, 24, 25, 26, 27, 28, 29, 30, 31, 32, 33, 34, 35, 36, 37, 38, 39, 40, 41, 42, 43, 44, 45, 46, 47, 48, 49, 50, 51, 52, 53, 54, 55, 56, 57, 58, 59, 60, 61, 62, 63, 64, 65, 66, 67, 68, 69, 70, 71, 72, 73, 74, 75, 76, 77, 78, 79, 80, 81, 82, 83, 84, 85] (tu_can st).tm 86)) (tu_can st).tm[1]? (tu_can st).tm[2]? (tu_can st).tm[3]? (tu_can st).tm[4]? (tu_can st).tm[5]? (tu_can st).own
set_option maxRecDepth 100000 in
set_option maxHeartbeats 4000000 in
theorem tu_rd_ok {b : Bool} {tm : List AV} {own : Own} {u : tu_U} {v : tu_V} (hj : b = true → juAll [0, 6, 7, 8, 9, 10, 11, 12, 13, 14, 15, 16, 17, 18, 19, 20, 21, 22, 23, 24, 25, 26, 27, 28, 29, 30, 31, 32, 33, 34, 35, 36, 37, 38, 39, 40, 41, 42, 43, 44, 45, 46, 47, 48, 49, 50, 51, 52, 53, 54, 55, 56, 57, 58, 59, 60, 61, 62, 63, 64, 65, 66, 67, 68, 69, 70, 71, 72, 73, 74, 75, 76, 77, 78, 79, 80, 81, 82, 83, 84, 85] tm 86 = true) (h : tu_rd b tm[1]? tm[2]? tm[3]? tm[4]? tm[5]? own = some (u, v)) : b = true ∧ tm = (tu_St u v).tm ∧ own = (tu_St u v).own := by
  unfold tu_rd at h
  obtain ⟨rfl, h0⟩ := zrT_some h
  obtain ⟨za1, e1, h1⟩ := zrO_some h0
  obtain ⟨zc2, rfl, h2⟩ := zrA1_some h1
  obtain ⟨rfl, h3⟩ := zrP_some h2
  obtain ⟨za3, e2, h4⟩ := zrO_some h3
  obtain ⟨zc4, rfl, h5⟩ := zrA1_some h4
  obtain ⟨q0, rfl, h6⟩ := zrB_some h5
  obtain ⟨za5, e3, h7⟩ := zrO_some h6
  obtain ⟨zc6, rfl, h8⟩ := zrA1_some h7
  obtain ⟨q1, rfl, h9⟩ := zrI_some h8
  obtain ⟨za7, e4, h10⟩ := zrO_some h9
  obtain ⟨zc8, rfl, h11⟩ := zrA1_some h10
  obtain ⟨rfl, h12⟩ := zrSl_some h11
  obtain ⟨za9, e5, h13⟩ := zrO_some h12
  obtain ⟨zc10, rfl, h14⟩ := zrA1_some h13
  obtain ⟨q2, rfl, h15⟩ := zrI_some h14
  obtain ⟨zq11, zw12, rfl, h16⟩ := zrL_some h15
  obtain ⟨zk13, rfl, h17⟩ := zrKey_some h16
  obtain ⟨q3, rfl, h18⟩ := zrR_some h17
  obtain ⟨zq14, zw15, rfl, h19⟩ := zrL_some h18
  obtain ⟨zk16, rfl, h20⟩ := zrKey_some h19
  obtain ⟨zl17, rfl, h21⟩ := zrC_some h20
  obtain ⟨zc18, zr19, rfl, h22⟩ := zrL_some h21
  obtain ⟨q4, rfl, h23⟩ := zrD_some h22
  obtain ⟨zc20, zr21, rfl, h24⟩ := zrL_some h23
  obtain ⟨q5, rfl, h25⟩ := zrI_some h24
  obtain ⟨zc22, zr23, rfl, h26⟩ := zrL_some h25
  obtain ⟨q6, rfl, h27⟩ := zrI_some h26
  obtain ⟨zc24, zr25, rfl, h28⟩ := zrL_some h27
  obtain ⟨q7, rfl, h29⟩ := zrI_some h28
  obtain ⟨rfl, h30⟩ := zrN_some h29
  obtain ⟨rfl, h31⟩ := zrN_some h30
  have h := Option.some.inj h31
  have hu := congrArg Prod.fst h
  have hv := congrArg Prod.snd h
  dsimp only at hu hv
  subst hu
  subst hv
  exact ⟨rfl, (tm_fill (hj rfl) (Lv := [(1, .one (.p 0 0)), (2, .one (.v false (.bool q0))), (3, .one (.v false (.int .i64 q1))), (4, .one (.s false 24 0 (none))), (5, .one (.v false (.int .i64 q2)))]) (by kernel_rfl) ⟨e1, e2, e3, e4, e5, trivial⟩).trans (by kernel_rfl), rfl⟩
theorem tu_read_ok (st : Stt) (u : tu_U) (v : tu_V) (h : tu_read st = some (u, v)) : tu_cok st = true ∧ staysA [] [24, 0] st.own = true ∧ tu_can st = tu_St u v := by
  obtain ⟨h1, h2, h3⟩ := tu_rd_ok (fun hb => by rw [Bool.and_eq_true, Bool.and_eq_true] at hb; exact hb.2.2) h
  rw [Bool.and_eq_true, Bool.and_eq_true] at h1
  refine ⟨h1.1, h1.2.1, ?_⟩
  have e : tu_can st = ⟨(tu_can st).tm, (tu_can st).own, 1027⟩ := by kernel_rfl
  rw [e, h2, h3]
  rfl
noncomputable def tu_cond (u : tu_U) (v : tu_V) : Bool := runC (tu_step u) v
noncomputable def tu_g (u : tu_U) (v : tu_V) : Nat × tu_V := runG (tu_step u) v
theorem tu_hg : ∀ (u : tu_U) (v : tu_V), tu_cond u v = true → loopN (tu_step u) ((fun u v => runF (tu_step u) v) u v) v = some (tu_g u v) := by
  exact fun u v h => run_hg h
noncomputable def tu_m (st : Stt) : Option (Tr (Ex × Stt)) := sumM tu_read tu_cond tu_St tu_g [(0, .exit 0)] st
noncomputable def rgF_L51 : FuncId → Loops := addL 7 [0, 1, 0, 1, 1, 1, 1] tu_m rgE_L56
set_option maxRecDepth 100000 in
set_option maxHeartbeats 4000000 in
theorem rgF_L51_ok : LoopsOK Try.prog rgF_L51 :=
  loop_sumF (body := (bodyOf Try.prog 7)) (c := (loopOf (bodyOf Try.prog 7) [1, 1, 1, 1, 0, 1, 0])) (kinds := [.exit 0]) (allow := [(0, .exit 0)]) (St := tu_St) (step := tu_step) (W := [0, 6, 7, 8, 9, 10, 11, 12, 13, 14, 15, 16, 17, 18, 19, 20, 21, 22, 23, 24, 25, 26, 27, 28, 29, 30, 31, 32, 33, 34, 35, 36, 37, 38, 39, 40, 41, 42, 43, 44, 45, 46, 47, 48, 49, 50, 51, 52, 53, 54, 55, 56, 57, 58, 59, 60, 61, 62, 63, 64, 65, 66, 67, 68, 69, 70, 71, 72, 73, 74, 75, 76, 77, 78, 79, 80, 81, 82, 83, 84, 85]) (As := []) (ks := [24, 0]) (dd := []) (nx := 1027) (n := 100000) (g := tu_g) (cond := tu_cond) (fuel := (fun u v => runF (tu_step u) v)) (read := tu_read) (by kernel_rfl) (rgE_S58_ok) (rgE_L56_ok) 7 ⟨Try.f7, by kernel_rfl, by kernel_rfl⟩ (by kernel_rfl) (by kernel_rfl) (by kernel_rfl) tu_step_eq tu_hg tu_read_ok
def TR (L : List Rg) : List Rg := tab L.length fun p => L.getD (L.length - 1 - p) []
theorem tu_run {L : List Rg} {i t b : Int} (hn : L.length ≤ 12) : tu_cond (false, (L.length : Int), L, i, t, b) (0, List.replicate (Int.toNat (L.length : Int)) []) = true ∧ tu_g (false, (L.length : Int), L, i, t, b) (0, List.replicate (Int.toNat (L.length : Int)) []) = (0, ((L.length : Int), TR L)) := by
  have R1 := run_steps (step := tu_step (false, (L.length : Int), L, i, t, b)) (St := fun j => ((j : Int), tab L.length fun p => if L.length - 1 - p < j then L.getD (L.length - 1 - p) [] else [])) (n := L.length) (t := (0, ((L.length : Int), TR L))) (by
    have e : (tab L.length fun p => if L.length - 1 - p < L.length then L.getD (L.length - 1 - p) [] else []) = TR L := tab_congr fun p hp => by rw [if_pos (by omega)]
    simp only [tu_step, Tr.val, Int.lt_irrefl, decide_false, cond_false, e]) L.length 0 (Nat.zero_add _) (fun j _ hj => by
    have w1 : IntKind.wrap IntKind.i64 (IntKind.wrap IntKind.i64 ((L.length : Int) - (1 : Int)) - (j : Int)) = ((L.length - 1 - j : Nat) : Int) := by
      rw [wid (x := (L.length : Int) - 1) (by omega) (by omega), wid (by omega) (by omega)]; omega
    have w2 := wi1 hj (show (L.length : Int) ≤ 9223372036854775806 by omega)
    have e : el_lilii L (j : Int) = L.getD j [] := rfl
    have c1 : decide (L.length - 1 - j < L.length) = true := decide_eq_true (by omega)
    have c2 : decide (((L.length - 1 - j : Nat) : Int) < (L.length : Int)) = true := decide_eq_true (by omega)
    have et : (tab L.length fun p => if p = L.length - 1 - j then L.getD j [] else if L.length - 1 - p < j then L.getD (L.length - 1 - p) [] else []) = tab L.length fun p => if L.length - 1 - p < j + 1 then L.getD (L.length - 1 - p) [] else [] := tab_congr fun p hp => by
      by_cases h : p = L.length - 1 - j
      · rw [if_pos h, if_pos (by omega), show L.length - 1 - p = j by omega]
      · rw [if_neg h]
        by_cases h2 : L.length - 1 - p < j
        · rw [if_pos h2, if_pos (by omega)]
        · rw [if_neg h2, if_neg (by omega)]
    simp only [tu_step, Tr.val, lt_t hj, nn_t, w1, w2, e, c1, c2, tab_length, tab_set, et, Int.toNat_natCast, Bool.and_self, cond_true])
  have e0 : (tab L.length fun p => if L.length - 1 - p < 0 then L.getD (L.length - 1 - p) [] else ([] : Rg)) = List.replicate (Int.toNat (L.length : Int)) [] := by
    rw [Int.toNat_natCast, tab_rep]
    exact tab_congr fun p hp => by rw [if_neg (Nat.not_lt_zero _)]
  rw [e0] at R1
  exact R1
theorem TR_len (L : List Rg) : (TR L).length = L.length := tab_length _ _
theorem TR_lay (L : List Rg) (i : Int) : layG (TR L) ((L.length : Int) - 1 - i) = layG L i := by
  by_cases h : i < 0 ∨ (L.length : Int) ≤ i
  · rw [layG_out h, layG_out (by rw [TR_len]; omega)]
  · have e : (TR L).getD ((L.length : Int) - 1 - i).toNat [] = L.getD i.toNat [] := by
      unfold TR
      rw [tab_getD _ (by omega), show L.length - 1 - ((L.length : Int) - 1 - i).toNat = i.toNat by omega]
    unfold layG
    rw [TR_len, e, decide_eq_true (show 0 ≤ i by omega), decide_eq_true (show i < (L.length : Int) by omega), decide_eq_true (show 0 ≤ (L.length : Int) - 1 - i by omega), decide_eq_true (show (L.length : Int) - 1 - i < (L.length : Int) by omega)]
theorem TR_S (L : List Rg) (i t b : Int) : skS (TR L) ((L.length : Int) - 1 - i) b t = skS L i t b := val_ext (skS_val _ _ _ _) (skS_val _ _ _ _) fun x y => by
  have n1 : ∀ a, skN (TR L) a = skN L a := fun a => by unfold skN; rw [TR_len]
  rw [Bool.eq_iff_iff, skS_mem, skS_mem, TR_lay, n1, n1]
  have e1 : ∀ k : Nat, layG (TR L) ((L.length : Int) - 1 - i + 1 + (k : Int)) = layG L (i - 1 - (k : Int)) := fun k => by rw [← TR_lay L (i - 1 - (k : Int))]; congr 1; omega
  have e2 : ∀ k : Nat, layG (TR L) ((L.length : Int) - 1 - i - 1 - (k : Int)) = layG L (i + 1 + (k : Int)) := fun k => by rw [← TR_lay L (i + 1 + (k : Int))]; congr 1; omega
  simp only [e1, e2]
  exact ⟨fun ⟨a, b, c⟩ => ⟨a, c, b⟩, fun ⟨a, b, c⟩ => ⟨a, c, b⟩⟩
theorem TR_F (L : List Rg) (i t b : Int) : skF (TR L) ((L.length : Int) - 1 - i) b t = skF L i t b := by
  unfold skF
  rw [TR_S, TR_lay]
theorem TR_sz {L : List Rg} (h : szL L = true) : szL (TR L) = true := by
  unfold szL
  rw [TR_len, decide_eq_true (szL_len h), Bool.true_and, List.all_eq_true]
  intro r hr
  unfold TR tab at hr
  obtain ⟨p, _, rfl⟩ := List.mem_map.1 hr
  exact szL_get h _
set_option maxRecDepth 100000 in
theorem law_SkinTurned_tree (L : (Ty.list (.list (.prod (.int .i64) (.list (.prod (.int .i64) (.int .i64)))))).den) (i : Int) (t : Int) (b : Int) : evalF Try.prog rgE_S58 (opens []) rgF_L51 9 7 [.ag [.d false false (.list (.prod (.int .i64) (.list (.prod (.int .i64) (.int .i64))))) L, .v false (.int .i64 i), .v false (.int .i64 t), .v false (.int .i64 b)]] = .br ((bif bif bif !smL L then true else decide (i < (0 : Int)) then true else decide (i ≥ (↑(List.length L) : Int)) then true else ((decide ((0 : Int) ≤ (↑(List.length L) : Int)) && decide ((↑(List.length L) : Int) ≤ (↑(List.length L) : Int)) && decide ((↑(24 : Nat) : Int) * (↑(List.length L) : Int) ≤ (281474976710656 : Int)) && decide ((↑(List.length L) : Int) ≤ (9223372036854775807 : Int))) && ((tu_cond (false, (↑(List.length L) : Int), L, i, t, b) ((0 : Int), List.replicate (Int.toNat (↑(List.length L) : Int)) [])) && ((Nat.beq (Prod.fst (tu_g (false, (↑(List.length L) : Int), L, i, t, b) ((0 : Int), List.replicate (Int.toNat (↑(List.length L) : Int)) []))) (0 : Nat)) && ((szL L) && ((szL (Prod.snd (Prod.snd (tu_g (false, (↑(List.length L) : Int), L, i, t, b) ((0 : Int), List.replicate (Int.toNat (↑(List.length L) : Int)) []))))) && ((szG (skF L i t b) && szG (skF (Prod.snd (Prod.snd (tu_g (false, (↑(List.length L) : Int), L, i, t, b) ((0 : Int), List.replicate (Int.toNat (↑(List.length L) : Int)) [])))) (IntKind.wrap IntKind.i64 (IntKind.wrap IntKind.i64 ((↑(List.length L) : Int) - (1 : Int)) - i)) b t)) && (bif sameG (skF L i t b) (skF (Prod.snd (Prod.snd (tu_g (false, (↑(List.length L) : Int), L, i, t, b) ((0 : Int), List.replicate (Int.toNat (↑(List.length L) : Int)) [])))) (IntKind.wrap IntKind.i64 (IntKind.wrap IntKind.i64 ((↑(List.length L) : Int) - (1 : Int)) - i)) b t) then (szG (skS L i t b) && szG (skS (Prod.snd (Prod.snd (tu_g (false, (↑(List.length L) : Int), L, i, t, b) ((0 : Int), List.replicate (Int.toNat (↑(List.length L) : Int)) [])))) (IntKind.wrap IntKind.i64 (IntKind.wrap IntKind.i64 ((↑(List.length L) : Int) - (1 : Int)) - i)) b t)) else true))))))))) (.ret (.one (.v false (.bool (bif bif bif !smL L then true else decide (i < (0 : Int)) then true else decide (i ≥ (↑(List.length L) : Int)) then true else bif sameG (skF L i t b) (skF (Prod.snd (Prod.snd (tu_g (false, (↑(List.length L) : Int), L, i, t, b) ((0 : Int), List.replicate (Int.toNat (↑(List.length L) : Int)) [])))) (IntKind.wrap IntKind.i64 (IntKind.wrap IntKind.i64 ((↑(List.length L) : Int) - (1 : Int)) - i)) b t) then bif sameG (skS L i t b) (skS (Prod.snd (Prod.snd (tu_g (false, (↑(List.length L) : Int), L, i, t, b) ((0 : Int), List.replicate (Int.toNat (↑(List.length L) : Int)) [])))) (IntKind.wrap IntKind.i64 (IntKind.wrap IntKind.i64 ((↑(List.length L) : Int) - (1 : Int)) - i)) b t) then true else false else false))))) (.bad 116) := by kernel_rfl
set_option maxHeartbeats 4000000 in
theorem law_SkinTurned_all (L : (Ty.list (.list (.prod (.int .i64) (.list (.prod (.int .i64) (.int .i64)))))).den) (i : Int) (t : Int) (b : Int) (r0 : Ty.InR (.prod (.list (.list (.prod (.int .i64) (.list (.prod (.int .i64) (.int .i64)))))) (.prod (.int .i64) (.prod (.int .i64) (.int .i64)))) (L, (i, (t, b))))  : Tr.all (fun r => ∃ kn, r = AV.one (.v kn (.bool true))) (.br ((bif bif bif !smL L then true else decide (i < (0 : Int)) then true else decide (i ≥ (↑(List.length L) : Int)) then true else ((decide ((0 : Int) ≤ (↑(List.length L) : Int)) && decide ((↑(List.length L) : Int) ≤ (↑(List.length L) : Int)) && decide ((↑(24 : Nat) : Int) * (↑(List.length L) : Int) ≤ (281474976710656 : Int)) && decide ((↑(List.length L) : Int) ≤ (9223372036854775807 : Int))) && ((tu_cond (false, (↑(List.length L) : Int), L, i, t, b) ((0 : Int), List.replicate (Int.toNat (↑(List.length L) : Int)) [])) && ((Nat.beq (Prod.fst (tu_g (false, (↑(List.length L) : Int), L, i, t, b) ((0 : Int), List.replicate (Int.toNat (↑(List.length L) : Int)) []))) (0 : Nat)) && ((szL L) && ((szL (Prod.snd (Prod.snd (tu_g (false, (↑(List.length L) : Int), L, i, t, b) ((0 : Int), List.replicate (Int.toNat (↑(List.length L) : Int)) []))))) && ((szG (skF L i t b) && szG (skF (Prod.snd (Prod.snd (tu_g (false, (↑(List.length L) : Int), L, i, t, b) ((0 : Int), List.replicate (Int.toNat (↑(List.length L) : Int)) [])))) (IntKind.wrap IntKind.i64 (IntKind.wrap IntKind.i64 ((↑(List.length L) : Int) - (1 : Int)) - i)) b t)) && (bif sameG (skF L i t b) (skF (Prod.snd (Prod.snd (tu_g (false, (↑(List.length L) : Int), L, i, t, b) ((0 : Int), List.replicate (Int.toNat (↑(List.length L) : Int)) [])))) (IntKind.wrap IntKind.i64 (IntKind.wrap IntKind.i64 ((↑(List.length L) : Int) - (1 : Int)) - i)) b t) then (szG (skS L i t b) && szG (skS (Prod.snd (Prod.snd (tu_g (false, (↑(List.length L) : Int), L, i, t, b) ((0 : Int), List.replicate (Int.toNat (↑(List.length L) : Int)) [])))) (IntKind.wrap IntKind.i64 (IntKind.wrap IntKind.i64 ((↑(List.length L) : Int) - (1 : Int)) - i)) b t)) else true))))))))) (.ret (.one (.v false (.bool (bif bif bif !smL L then true else decide (i < (0 : Int)) then true else decide (i ≥ (↑(List.length L) : Int)) then true else bif sameG (skF L i t b) (skF (Prod.snd (Prod.snd (tu_g (false, (↑(List.length L) : Int), L, i, t, b) ((0 : Int), List.replicate (Int.toNat (↑(List.length L) : Int)) [])))) (IntKind.wrap IntKind.i64 (IntKind.wrap IntKind.i64 ((↑(List.length L) : Int) - (1 : Int)) - i)) b t) then bif sameG (skS L i t b) (skS (Prod.snd (Prod.snd (tu_g (false, (↑(List.length L) : Int), L, i, t, b) ((0 : Int), List.replicate (Int.toNat (↑(List.length L) : Int)) [])))) (IntKind.wrap IntKind.i64 (IntKind.wrap IntKind.i64 ((↑(List.length L) : Int) - (1 : Int)) - i)) b t) then true else false else false))))) (.bad 116)) := by
  obtain ⟨K, rfl⟩ : ∃ K : List Rg, K = L := ⟨L, rfl⟩
  cases hs : smL K
  · simp only [Bool.not_false, cond_true]
    exact ⟨fun _ => ⟨_, rfl⟩, fun h => by cases h⟩
  · obtain ⟨hl, hz⟩ := smL_sz hs
    by_cases h1 : i < 0
    · have d1 : decide (i < (0 : Int)) = true := decide_eq_true h1
      simp only [d1, Bool.not_true, cond_true, cond_false]
      exact ⟨fun _ => ⟨_, rfl⟩, fun h => by cases h⟩
    · have d1 : decide (i < (0 : Int)) = false := decide_eq_false h1
      by_cases h2 : i ≥ (K.length : Int)
      · have d2 : decide (i ≥ (K.length : Int)) = true := decide_eq_true h2
        simp only [d1, d2, Bool.not_true, cond_true, cond_false]
        exact ⟨fun _ => ⟨_, rfl⟩, fun h => by cases h⟩
      · have d2 : decide (i ≥ (K.length : Int)) = false := decide_eq_false h2
        have d3 : decide ((0 : Int) ≤ (K.length : Int)) = true := decide_eq_true (by omega)
        have d4 : decide ((K.length : Int) ≤ (K.length : Int)) = true := decide_eq_true (Int.le_refl _)
        have d5 : decide (((24 : Nat) : Int) * (K.length : Int) ≤ (281474976710656 : Int)) = true := decide_eq_true (by omega)
        have d6 : decide ((K.length : Int) ≤ (9223372036854775807 : Int)) = true := decide_eq_true (by omega)
        obtain ⟨v1, v2⟩ := tu_run (i := i) (t := t) (b := b) hl
        have w : IntKind.wrap IntKind.i64 (IntKind.wrap IntKind.i64 ((K.length : Int) - (1 : Int)) - i) = (K.length : Int) - 1 - i := by
          rw [wid (x := (K.length : Int) - 1) (by omega) (by omega), wid (by omega) (by omega)]
        have sF := val_sz (skF_val K i t b)
        have sS := val_sz (skS_val K i t b)
        have q1 := same_self (skF_val K i t b)
        have q2 := same_self (skS_val K i t b)
        simp only [d1, d2, d3, d4, d5, d6, v1, v2, w, hz, TR_sz hz, TR_F, TR_S, sF, sS, q1, q2, Nat.beq, Bool.not_true, Bool.and_self, cond_true, cond_false]
        exact ⟨fun _ => ⟨_, rfl⟩, fun h => by cases h⟩
set_option maxHeartbeats 4000000 in
theorem law_SkinTurned (v0 : Value) (x0 : ((.prod (.list (.list (.prod (.int .i64) (.list (.prod (.int .i64) (.int .i64)))))) (.prod (.int .i64) (.prod (.int .i64) (.int .i64)))) : Ty).den) (r0 : Ty.InR (.prod (.list (.list (.prod (.int .i64) (.list (.prod (.int .i64) (.int .i64)))))) (.prod (.int .i64) (.prod (.int .i64) (.int .i64)))) x0) (z_w : World) (i0 : (AV.ag (Ty.cells false (.prod (.list (.list (.prod (.int .i64) (.list (.prod (.int .i64) (.int .i64)))))) (.prod (.int .i64) (.prod (.int .i64) (.int .i64)))) x0)).is [] (fun _ => none) (fun b => b < z_w.heap.size) z_w v0) : Calls Try.prog 7 #[v0] z_w fun e w' => e = .returned (.bool true) ∧ Ext z_w w' := by
  obtain ⟨L, ⟨i, ⟨t, b⟩⟩⟩ := x0
  refine law_of_tree (by kernel_rfl) (rgE_S58_ok) (rgF_L51_ok) (law_SkinTurned_tree L i t b) (law_SkinTurned_all L i t b r0 ) rfl z_w _ _ (fun _ h => h) ⟨_, _, rfl, i0, rfl⟩
end Go.Proofs.Ytfdamfapnpgmjaa
