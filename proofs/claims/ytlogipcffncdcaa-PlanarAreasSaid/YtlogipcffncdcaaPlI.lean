/-
  Contracts of the document's own Area2; the walk of the law PlanarAreas: it answers true.
-/
import Derived.Test.YtlogipcffncdcaaPlG
import Derived.Deep.DeepCutAuto
namespace Go.Proofs.Ytlogipcffncdcaa
open Go.RowKit
theorem htakeR {P : Program} {ops : Array Oper} {Q : Exit → Act → World → Prop} {md : Region.Mode} {S : World → Prop} {i : Nat} {oi : Oper} {v : Value} {fuel : Nat} {listed : Array Bool} {a : Act} {w : World} (d : Option Tmp) (hi : ops[i]? = some oi) (hd : oi.dst = d)
    (hs : Region.noSelect ops = true) (hf : Region.free md ops listed i = true) (hr : (Region.ready md ops listed).contains i = true)
    (hQ : ∀ c a w, Q (.panic c) (a.put d v) w → Q (.panic c) a w) (hy : YieldsIf P ops S oi v a) (hS : S w)
    (h : wpAnyH P md ops Q S fuel (listed.setIfInBounds i true) (a.put d v) w) : wpAnyH P md ops Q S (fuel + 1) listed a w := by
  subst hd
  exact wpAnyH_take hi hs hf hr hQ hy hS h
set_option maxHeartbeats 8000000 in
theorem ref_Area2_yes (q : Option Addr) (c : Nat) (L : List (Int × Int)) (h8 : L.length ≤ 8192) (hu : PUse L) (w : World) (hL : PI w q L) :
    Calls Try.prog 30 #[.slice q L.length c] w fun e w' => e = .returned (.int .i64 (parea L L.length)) ∧ Ext w w' := by
  have d0 := dlt_f (show (L.length : Int) ≤ 8192 by omega)
  have HL := Lib.hid hL; have HU := Lib.hid hu
  clear hL hu
  go_enter Try.func30, Try.ntmps30
  go_wp2_with fail
  go_loopw [3, 4] (fun s i wr => ∃ k : Nat, i = .int .i64 k ∧ (∃ x, s = .int .i64 x ∧ x = parea L k) ∧ k ≤ L.length ∧ (∀ (j : Nat) (x y : Int), j < k → L[j]? = some (x, y) → In2 16777216 x y) ∧ Ext w wr) (fun _ i _ => L.length - (intOf i).toNat)
  case atStart => exact ⟨0, rfl, ⟨0, rfl, rfl⟩, by omega, fun j _ _ hj => absurd hj (by omega), Ext.refl _⟩
  case round =>
    obtain ⟨k, rfl, hs, hk, hok, hxt⟩ := hrel
    obtain ⟨s, rfl, hs⟩ := hs
    by_cases h : k < L.length
    · obtain ⟨⟨x, y⟩, hd⟩ : ∃ d, L[k]? = some d := ⟨_, List.getElem?_eq_getElem h⟩
      have hj : (k + 1) % L.length < L.length := Nat.mod_lt _ (by omega)
      obtain ⟨⟨u, v⟩, hd2⟩ : ∃ d, L[(k + 1) % L.length]? = some d := ⟨_, List.getElem?_eq_getElem hj⟩
      obtain ⟨bl, o, hq, e1, e2⟩ := (HL.out.ext hxt) k x y hd
      obtain ⟨bl', o', hq', e3, e4⟩ := (HL.out.ext hxt) _ u v hd2
      subst hq
      cases hq'
      have kL : (k : Int) < L.length := by omega
      have k8 : (k : Int) ≤ 8192 := by omega
      have dk := dlt_t kL
      have r5 : IntKind.i64.wrap ((k : Int) + 1) = k + 1 := IntWalk.i64_in _ (by omega)
      have tm : ((k : Int) + 1).tmod L.length = ((k + 1) % L.length : Nat) := by
        rw [Int.tmod_eq_emod_of_nonneg (by omega)]; simp
      have n0 : ((L.length : Int) == 0) = false := beq_f (by omega)
      have b0 : ∀ w', Ext wr w' → w'.cell? ⟨bl, o + k * 2, none⟩ = some (.int .i64 x) := fun _ h => h.keep e1
      have b1 : ∀ w', Ext wr w' → w'.cell? ⟨bl, o + k * 2 + 1, none⟩ = some (.int .i64 y) := fun _ h => h.keep e2
      have b2 : ∀ w', Ext wr w' → w'.cell? ⟨bl, o + (k + 1) % L.length * 2, none⟩ = some (.int .i64 u) := fun _ h => h.keep e3
      have b3 : ∀ w', Ext wr w' → w'.cell? ⟨bl, o + (k + 1) % L.length * 2 + 1, none⟩ = some (.int .i64 v) := fun _ h => h.keep e4
      have z := cell_lt e1
      have HX := Lib.hid hxt; have HOK := Lib.hid hok; have HD := Lib.hid hd; have HD2 := Lib.hid hd2
      clear hxt hok hd hd2 e1 e2 e3 e4
      obtain ⟨j, hjn⟩ : ∃ j, j = (k + 1) % L.length := ⟨_, rfl⟩
      rw [← hjn] at hj tm b2 b3
      have HJ := Lib.hid hjn
      clear hjn
      have nn : ¬ (L = []) := by intro e; subst e; simp at h
      have E0 := Ext.refl wr
      go_wp2_with fail
      go_cut [5, 6] (fun s5 s6 wx => ∃ p q, s5 = .pointer (some ⟨p, 0, none⟩) ∧ s6 = .pointer (some ⟨q, 0, none⟩) ∧ wx.cell? ⟨p, 0, none⟩ = some (.int .i64 x) ∧ wx.cell? ⟨p, 1, none⟩ = some (.int .i64 y) ∧ wx.cell? ⟨q, 0, none⟩ = some (.int .i64 u) ∧ wx.cell? ⟨q, 1, none⟩ = some (.int .i64 v) ∧ Ext wr wx)
      case first =>
        refine wp_region_held_drew (S := fun w' => Ext wr w') (by kernel_rfl) (by (try dsimp only); (repeat' (with_reducible first | assumption | refine Ext.drew ?_ | refine Ext.drewN ?_ _ | exact Ext.refl _))) (fun hHeld => ?_)
        refine htakeR (i := 0) (v := ?_) (some 16) rfl rfl (by kernel_rfl) (by kernel_rfl) (by kernel_rfl) (fun _ _ _ h => h) (Or.inl ⟨by rfl, ?_⟩) (by assumption) ?_; rotate_left; (focus (intro w hSw; (try dsimp only at hSw); go_simp; (try with_reducible rfl))); (try simp only [Act.put, List.setIfInBounds_toArray]); (try dsimp only [List.set_cons_succ, List.set_cons_zero])
        refine htakeR (i := 1) (v := ?_) (some 17) rfl rfl (by kernel_rfl) (by kernel_rfl) (by kernel_rfl) (fun _ _ _ h => h) (Or.inl ⟨by rfl, ?_⟩) (by assumption) ?_; rotate_left; (focus (intro w hSw; (try dsimp only at hSw); go_simp; (try with_reducible rfl))); (try simp only [Act.put, List.setIfInBounds_toArray]); (try dsimp only [List.set_cons_succ, List.set_cons_zero])
        refine htakeR (i := 2) (v := ?_) (some 18) rfl rfl (by kernel_rfl) (by kernel_rfl) (by kernel_rfl) (fun _ _ _ h => h) (Or.inl ⟨by rfl, ?_⟩) (by assumption) ?_; rotate_left; (focus (intro w hSw; (try dsimp only at hSw); go_simp; (try with_reducible rfl))); (try simp only [Act.put, List.setIfInBounds_toArray]); (try dsimp only [List.set_cons_succ, List.set_cons_zero])
        refine htakeR (i := 3) (v := ?_) (some 19) rfl rfl (by kernel_rfl) (by kernel_rfl) (by kernel_rfl) (fun _ _ _ h => h) (Or.inl ⟨by rfl, ?_⟩) (by assumption) ?_; rotate_left; (focus (intro w hSw; (try dsimp only at hSw); go_simp; (try with_reducible rfl))); (try simp only [Act.put, List.setIfInBounds_toArray]); (try dsimp only [List.set_cons_succ, List.set_cons_zero])
        refine htakeR (i := 4) (v := ?_) (some 20) rfl rfl (by kernel_rfl) (by kernel_rfl) (by kernel_rfl) (fun _ _ _ h => h) (Or.inl ⟨by rfl, ?_⟩) (by assumption) ?_; rotate_left; (focus (intro w hSw; (try dsimp only at hSw); go_simp; (try with_reducible rfl))); (try simp only [Act.put, List.setIfInBounds_toArray]); (try dsimp only [List.set_cons_succ, List.set_cons_zero])
        refine htakeR (i := 5) (v := ?_) (some 21) rfl rfl (by kernel_rfl) (by kernel_rfl) (by kernel_rfl) (fun _ _ _ h => h) (Or.inl ⟨by rfl, ?_⟩) (by assumption) ?_; rotate_left; (focus (intro w hSw; (try dsimp only at hSw); go_simp; (try with_reducible rfl))); (try simp only [Act.put, List.setIfInBounds_toArray]); (try dsimp only [List.set_cons_succ, List.set_cons_zero])
        refine htakeR (i := 6) (v := ?_) (some 22) rfl rfl (by kernel_rfl) (by kernel_rfl) (by kernel_rfl) (fun _ _ _ h => h) (Or.inl ⟨by rfl, ?_⟩) (by assumption) ?_; rotate_left; (focus (intro w hSw; (try dsimp only at hSw); go_simp; (try with_reducible rfl))); (try simp only [Act.put, List.setIfInBounds_toArray]); (try dsimp only [List.set_cons_succ, List.set_cons_zero])
        refine htakeR (i := 7) (v := ?_) (some 23) rfl rfl (by kernel_rfl) (by kernel_rfl) (by kernel_rfl) (fun _ _ _ h => h) (Or.inl ⟨by rfl, ?_⟩) (by assumption) ?_; rotate_left; (focus (intro w hSw; (try dsimp only at hSw); go_simp; (try with_reducible rfl))); (try simp only [Act.put, List.setIfInBounds_toArray]); (try dsimp only [List.set_cons_succ, List.set_cons_zero])
        refine htakeR (i := 8) (v := ?_) (some 24) rfl rfl (by kernel_rfl) (by kernel_rfl) (by kernel_rfl) (fun _ _ _ h => h) (Or.inl ⟨by rfl, ?_⟩) (by assumption) ?_; rotate_left; (focus (intro w hSw; (try dsimp only at hSw); go_simp; (try with_reducible rfl))); (try simp only [Act.put, List.setIfInBounds_toArray]); (try dsimp only [List.set_cons_succ, List.set_cons_zero])
        refine htakeR (i := 9) (v := ?_) (some 25) rfl rfl (by kernel_rfl) (by kernel_rfl) (by kernel_rfl) (fun _ _ _ h => h) (Or.inl ⟨by rfl, ?_⟩) (by assumption) ?_; rotate_left; (focus (intro w hSw; (try dsimp only at hSw); go_simp; (try with_reducible rfl))); (try simp only [Act.put, List.setIfInBounds_toArray]); (try dsimp only [List.set_cons_succ, List.set_cons_zero])
        refine htakeR (i := 10) (v := ?_) (some 26) rfl rfl (by kernel_rfl) (by kernel_rfl) (by kernel_rfl) (fun _ _ _ h => h) (Or.inl ⟨by rfl, ?_⟩) (by assumption) ?_; rotate_left; (focus (intro w hSw; (try dsimp only at hSw); go_simp; (try with_reducible rfl))); (try simp only [Act.put, List.setIfInBounds_toArray]); (try dsimp only [List.set_cons_succ, List.set_cons_zero])
        refine htakeR (i := 11) (v := ?_) (some 27) rfl rfl (by kernel_rfl) (by kernel_rfl) (by kernel_rfl) (fun _ _ _ h => h) (Or.inl ⟨by rfl, ?_⟩) (by assumption) ?_; rotate_left; (focus (intro w hSw; (try dsimp only at hSw); go_simp; (try with_reducible rfl))); (try simp only [Act.put, List.setIfInBounds_toArray]); (try dsimp only [List.set_cons_succ, List.set_cons_zero])
        refine wpAnyH_ready (rs := [12, 13]) (by kernel_rfl) (by simp) ?_
        refine AllReadyH.cons rfl (fun K hK => ?_) (AllReadyH.cons rfl (fun K hK => ?_) (AllReadyH.nil))
        · go_simp
          refine hK.out _ _ ?_ (fun hHeld => ?_)
          · (try dsimp only); (repeat' (with_reducible first | assumption | refine Ext.drew ?_ | refine Ext.drewN ?_ _ | refine Ext.alloc ?_ _ | exact Ext.refl _ | (refine Ext.setCell ?_ ?_ _; rotate_left; (focus ((try simp); try omega)))))
          clear hK K
          (try simp only [Act.put, List.setIfInBounds_toArray]); (try dsimp only [List.set_cons_succ, List.set_cons_zero])
          refine wpAnyH_ready (rs := [13]) (by kernel_rfl) (by simp) ?_
          refine AllReadyH.cons rfl (fun K hK => ?_) (AllReadyH.nil)
          go_simp
          refine hK.out _ _ ?_ (fun hHeld => ?_)
          · (try dsimp only); (repeat' (with_reducible first | assumption | refine Ext.drew ?_ | refine Ext.drewN ?_ _ | refine Ext.alloc ?_ _ | exact Ext.refl _ | (refine Ext.setCell ?_ ?_ _; rotate_left; (focus ((try simp); try omega)))))
          clear hK K
          (try simp only [Act.put, List.setIfInBounds_toArray]); (try dsimp only [List.set_cons_succ, List.set_cons_zero])
          refine wpAnyH_ready (rs := [14]) (by kernel_rfl) (by simp) ?_
          refine AllReadyH.cons rfl (fun K hK => ?_) (AllReadyH.nil)
          go_simp
          refine hK.out _ _ ?_ (fun hHeld => ?_)
          · (try dsimp only); (repeat' (with_reducible first | assumption | refine Ext.drew ?_ | refine Ext.drewN ?_ _ | refine Ext.alloc ?_ _ | exact Ext.refl _ | (refine Ext.setCell ?_ ?_ _; rotate_left; (focus ((try simp); try omega)))))
          clear hK K
          (try simp only [Act.put, List.setIfInBounds_toArray]); (try dsimp only [List.set_cons_succ, List.set_cons_zero])
          refine wpAnyH_ready (rs := [15]) (by kernel_rfl) (by simp) ?_
          refine AllReadyH.cons rfl (fun K hK => ?_) (AllReadyH.nil)
          go_simp
          refine hK.out _ _ ?_ (fun hHeld => ?_)
          · (try dsimp only); (repeat' (with_reducible first | assumption | refine Ext.drew ?_ | refine Ext.drewN ?_ _ | refine Ext.alloc ?_ _ | exact Ext.refl _ | (refine Ext.setCell ?_ ?_ _; rotate_left; (focus ((try simp); try omega)))))
          clear hK K
          (try simp only [Act.put, List.setIfInBounds_toArray]); (try dsimp only [List.set_cons_succ, List.set_cons_zero])
          refine wpAnyH_done (by kernel_rfl) ?_ _
          go_wp2_with fail
          go_meet
          case rel =>
            exact ⟨wr.heap.size, wr.heap.size + 1, rfl, rfl, by go_simp, by go_simp, by go_simp, by go_simp, hHeld⟩

        · go_simp
          refine hK.out _ _ ?_ (fun hHeld => ?_)
          · (try dsimp only); (repeat' (with_reducible first | assumption | refine Ext.drew ?_ | refine Ext.drewN ?_ _ | refine Ext.alloc ?_ _ | exact Ext.refl _ | (refine Ext.setCell ?_ ?_ _; rotate_left; (focus ((try simp); try omega)))))
          clear hK K
          (try simp only [Act.put, List.setIfInBounds_toArray]); (try dsimp only [List.set_cons_succ, List.set_cons_zero])
          refine wpAnyH_ready (rs := [12]) (by kernel_rfl) (by simp) ?_
          refine AllReadyH.cons rfl (fun K hK => ?_) (AllReadyH.nil)
          go_simp
          refine hK.out _ _ ?_ (fun hHeld => ?_)
          · (try dsimp only); (repeat' (with_reducible first | assumption | refine Ext.drew ?_ | refine Ext.drewN ?_ _ | refine Ext.alloc ?_ _ | exact Ext.refl _ | (refine Ext.setCell ?_ ?_ _; rotate_left; (focus ((try simp); try omega)))))
          clear hK K
          (try simp only [Act.put, List.setIfInBounds_toArray]); (try dsimp only [List.set_cons_succ, List.set_cons_zero])
          refine wpAnyH_ready (rs := [14]) (by kernel_rfl) (by simp) ?_
          refine AllReadyH.cons rfl (fun K hK => ?_) (AllReadyH.nil)
          go_simp
          refine hK.out _ _ ?_ (fun hHeld => ?_)
          · (try dsimp only); (repeat' (with_reducible first | assumption | refine Ext.drew ?_ | refine Ext.drewN ?_ _ | refine Ext.alloc ?_ _ | exact Ext.refl _ | (refine Ext.setCell ?_ ?_ _; rotate_left; (focus ((try simp); try omega)))))
          clear hK K
          (try simp only [Act.put, List.setIfInBounds_toArray]); (try dsimp only [List.set_cons_succ, List.set_cons_zero])
          refine wpAnyH_ready (rs := [15]) (by kernel_rfl) (by simp) ?_
          refine AllReadyH.cons rfl (fun K hK => ?_) (AllReadyH.nil)
          go_simp
          refine hK.out _ _ ?_ (fun hHeld => ?_)
          · (try dsimp only); (repeat' (with_reducible first | assumption | refine Ext.drew ?_ | refine Ext.drewN ?_ _ | refine Ext.alloc ?_ _ | exact Ext.refl _ | (refine Ext.setCell ?_ ?_ _; rotate_left; (focus ((try simp); try omega)))))
          clear hK K
          (try simp only [Act.put, List.setIfInBounds_toArray]); (try dsimp only [List.set_cons_succ, List.set_cons_zero])
          refine wpAnyH_done (by kernel_rfl) ?_ _
          go_wp2_with fail
          go_meet
          case rel =>
            exact ⟨wr.heap.size + 1, wr.heap.size, rfl, rfl, by go_simp, by go_simp, by go_simp, by go_simp, hHeld⟩

      case rest =>
        obtain ⟨p, q, rfl, rfl, p0, p1, q0, q1, hx⟩ := hcut
        have XC := Lib.hid hx
        have zp := cell_lt p0
        have zq := cell_lt q0
        clear hx b0 b1 b2 b3 E0
        have hi : In2 16777216 x y := HU.out.2 _ _ _ HD.out
        have c1 := Lib.hid fun w => additiveref05_Valid x y true (by rw [decide_eq_true hi]) w
        have nx : parea L (k + 1) = parea L k + (x * v - y * u) := by
          have h2 := HD2.out
          rw [← HJ.out] at h2
          simp only [parea, pterm, ← HJ.out, HD.out, h2]
        have s0 := parea_size HU.out k
        have s1 := parea_size HU.out (k + 1)
        obtain ⟨a0, a1, a2, a3⟩ := hi
        obtain ⟨c0, c1', c2, c3⟩ := HU.out.2 _ _ _ HD2.out
        have m0 := mul_in (a := x) (b := v) (k := 16777216) (m := 16777216) (by omega) (by omega) (by omega) (by omega)
        have m1 := mul_in (a := y) (b := u) (k := 16777216) (m := 16777216) (by omega) (by omega) (by omega) (by omega)
        subst hs
        have r1 : IntKind.i64.wrap (x * v) = x * v := IntWalk.i64_in _ (by omega)
        have r2 : IntKind.i64.wrap (y * u) = y * u := IntWalk.i64_in _ (by omega)
        have r3 : IntKind.i64.wrap (parea L k + x * v) = parea L k + x * v := IntWalk.i64_in _ (by omega)
        have r4 : IntKind.i64.wrap (parea L k + x * v - y * u) = parea L k + x * v - y * u := IntWalk.i64_in _ (by omega)
        have NX := Lib.hid (show parea L k + x * v - y * u = parea L (k + 1) by omega)
        have HOK1 := Lib.hid (show ∀ (j : Nat) (u v : Int), j < k + 1 → L[j]? = some (u, v) → In2 16777216 u v from fun j u v _ he => HU.out.2 j u v he)
        clear nx s0 s1 a0 a1 a2 a3 c0 c1' c2 c3 m0 m1
        generalize parea L k = s at *
        go_wp2_with fail
        refine (c1.out _).mono ?_; rintro e w1 ⟨rfl, x1⟩
        have g0 := x1.keep p0
        have g1 := x1.keep p1
        have g2 := x1.keep q0
        have g3 := x1.keep q1
        have XK := Lib.hid x1
        have zp1 := cell_lt g0
        have zq1 := cell_lt g2
        clear x1
        go_wp2_with fail
        go_roundw
        case rel => exact ⟨k + 1, by go_num, ⟨_, rfl, NX.out⟩, by omega, HOK1.out, by have := (HX.out.trans XC.out).trans (XK.out); (repeat' (with_reducible first | assumption | refine Ext.drew ?_ | refine Ext.drewN ?_ _ | exact Ext.refl _))⟩
        case measure => simp [intOf]; omega
    · obtain rfl : k = L.length := by omega
      have kL : ¬ ((L.length : Int) < L.length) := by omega
      have HX := Lib.hid hxt
      subst hs
      clear hok hxt
      go_wp2_with fail
      go_ret
      exact ⟨rfl, HX.out⟩
set_option maxHeartbeats 8000000 in
theorem ref_Area2_no (q : Option Addr) (c : Nat) (L : List (Int × Int)) (h8 : L.length ≤ 8192) (hu : ¬ PUse L) (w : World) (hL : PI w q L) :
    Calls Try.prog 30 #[.slice q L.length c] w fun e w' => e = .returned (.int .i64 0) ∧ Ext w w' := by
  have d0 := dlt_f (show (L.length : Int) ≤ 8192 by omega)
  have HL := Lib.hid hL; have HU := Lib.hid hu
  clear hL hu
  go_enter Try.func30, Try.ntmps30
  go_wp2_with fail
  go_loopw [3, 4] (fun s i wr => ∃ k : Nat, i = .int .i64 k ∧ (∃ x, s = .int .i64 x) ∧ k ≤ L.length ∧ (∀ (j : Nat) (x y : Int), j < k → L[j]? = some (x, y) → In2 16777216 x y) ∧ Ext w wr) (fun _ i _ => L.length - (intOf i).toNat)
  case atStart => exact ⟨0, rfl, ⟨0, rfl⟩, by omega, fun j _ _ hj => absurd hj (by omega), Ext.refl _⟩
  case round =>
    obtain ⟨k, rfl, hs, hk, hok, hxt⟩ := hrel
    obtain ⟨s, rfl⟩ := hs
    by_cases h : k < L.length
    · obtain ⟨⟨x, y⟩, hd⟩ : ∃ d, L[k]? = some d := ⟨_, List.getElem?_eq_getElem h⟩
      have hj : (k + 1) % L.length < L.length := Nat.mod_lt _ (by omega)
      obtain ⟨⟨u, v⟩, hd2⟩ : ∃ d, L[(k + 1) % L.length]? = some d := ⟨_, List.getElem?_eq_getElem hj⟩
      obtain ⟨bl, o, hq, e1, e2⟩ := (HL.out.ext hxt) k x y hd
      obtain ⟨bl', o', hq', e3, e4⟩ := (HL.out.ext hxt) _ u v hd2
      subst hq
      cases hq'
      have kL : (k : Int) < L.length := by omega
      have k8 : (k : Int) ≤ 8192 := by omega
      have dk := dlt_t kL
      have r5 : IntKind.i64.wrap ((k : Int) + 1) = k + 1 := IntWalk.i64_in _ (by omega)
      have tm : ((k : Int) + 1).tmod L.length = ((k + 1) % L.length : Nat) := by
        rw [Int.tmod_eq_emod_of_nonneg (by omega)]; simp
      have n0 : ((L.length : Int) == 0) = false := beq_f (by omega)
      have b0 : ∀ w', Ext wr w' → w'.cell? ⟨bl, o + k * 2, none⟩ = some (.int .i64 x) := fun _ h => h.keep e1
      have b1 : ∀ w', Ext wr w' → w'.cell? ⟨bl, o + k * 2 + 1, none⟩ = some (.int .i64 y) := fun _ h => h.keep e2
      have b2 : ∀ w', Ext wr w' → w'.cell? ⟨bl, o + (k + 1) % L.length * 2, none⟩ = some (.int .i64 u) := fun _ h => h.keep e3
      have b3 : ∀ w', Ext wr w' → w'.cell? ⟨bl, o + (k + 1) % L.length * 2 + 1, none⟩ = some (.int .i64 v) := fun _ h => h.keep e4
      have z := cell_lt e1
      have HX := Lib.hid hxt; have HOK := Lib.hid hok; have HD := Lib.hid hd; have HD2 := Lib.hid hd2
      clear hxt hok hd hd2 e1 e2 e3 e4
      obtain ⟨j, hjn⟩ : ∃ j, j = (k + 1) % L.length := ⟨_, rfl⟩
      rw [← hjn] at hj tm b2 b3
      have HJ := Lib.hid hjn
      clear hjn
      have nn : ¬ (L = []) := by intro e; subst e; simp at h
      have E0 := Ext.refl wr
      go_wp2_with fail
      go_cut [5, 6] (fun s5 s6 wx => ∃ p q, s5 = .pointer (some ⟨p, 0, none⟩) ∧ s6 = .pointer (some ⟨q, 0, none⟩) ∧ wx.cell? ⟨p, 0, none⟩ = some (.int .i64 x) ∧ wx.cell? ⟨p, 1, none⟩ = some (.int .i64 y) ∧ wx.cell? ⟨q, 0, none⟩ = some (.int .i64 u) ∧ wx.cell? ⟨q, 1, none⟩ = some (.int .i64 v) ∧ Ext wr wx)
      case first =>
        refine wp_region_held_drew (S := fun w' => Ext wr w') (by kernel_rfl) (by (try dsimp only); (repeat' (with_reducible first | assumption | refine Ext.drew ?_ | refine Ext.drewN ?_ _ | exact Ext.refl _))) (fun hHeld => ?_)
        refine htakeR (i := 0) (v := ?_) (some 16) rfl rfl (by kernel_rfl) (by kernel_rfl) (by kernel_rfl) (fun _ _ _ h => h) (Or.inl ⟨by rfl, ?_⟩) (by assumption) ?_; rotate_left; (focus (intro w hSw; (try dsimp only at hSw); go_simp; (try with_reducible rfl))); (try simp only [Act.put, List.setIfInBounds_toArray]); (try dsimp only [List.set_cons_succ, List.set_cons_zero])
        refine htakeR (i := 1) (v := ?_) (some 17) rfl rfl (by kernel_rfl) (by kernel_rfl) (by kernel_rfl) (fun _ _ _ h => h) (Or.inl ⟨by rfl, ?_⟩) (by assumption) ?_; rotate_left; (focus (intro w hSw; (try dsimp only at hSw); go_simp; (try with_reducible rfl))); (try simp only [Act.put, List.setIfInBounds_toArray]); (try dsimp only [List.set_cons_succ, List.set_cons_zero])
        refine htakeR (i := 2) (v := ?_) (some 18) rfl rfl (by kernel_rfl) (by kernel_rfl) (by kernel_rfl) (fun _ _ _ h => h) (Or.inl ⟨by rfl, ?_⟩) (by assumption) ?_; rotate_left; (focus (intro w hSw; (try dsimp only at hSw); go_simp; (try with_reducible rfl))); (try simp only [Act.put, List.setIfInBounds_toArray]); (try dsimp only [List.set_cons_succ, List.set_cons_zero])
        refine htakeR (i := 3) (v := ?_) (some 19) rfl rfl (by kernel_rfl) (by kernel_rfl) (by kernel_rfl) (fun _ _ _ h => h) (Or.inl ⟨by rfl, ?_⟩) (by assumption) ?_; rotate_left; (focus (intro w hSw; (try dsimp only at hSw); go_simp; (try with_reducible rfl))); (try simp only [Act.put, List.setIfInBounds_toArray]); (try dsimp only [List.set_cons_succ, List.set_cons_zero])
        refine htakeR (i := 4) (v := ?_) (some 20) rfl rfl (by kernel_rfl) (by kernel_rfl) (by kernel_rfl) (fun _ _ _ h => h) (Or.inl ⟨by rfl, ?_⟩) (by assumption) ?_; rotate_left; (focus (intro w hSw; (try dsimp only at hSw); go_simp; (try with_reducible rfl))); (try simp only [Act.put, List.setIfInBounds_toArray]); (try dsimp only [List.set_cons_succ, List.set_cons_zero])
        refine htakeR (i := 5) (v := ?_) (some 21) rfl rfl (by kernel_rfl) (by kernel_rfl) (by kernel_rfl) (fun _ _ _ h => h) (Or.inl ⟨by rfl, ?_⟩) (by assumption) ?_; rotate_left; (focus (intro w hSw; (try dsimp only at hSw); go_simp; (try with_reducible rfl))); (try simp only [Act.put, List.setIfInBounds_toArray]); (try dsimp only [List.set_cons_succ, List.set_cons_zero])
        refine htakeR (i := 6) (v := ?_) (some 22) rfl rfl (by kernel_rfl) (by kernel_rfl) (by kernel_rfl) (fun _ _ _ h => h) (Or.inl ⟨by rfl, ?_⟩) (by assumption) ?_; rotate_left; (focus (intro w hSw; (try dsimp only at hSw); go_simp; (try with_reducible rfl))); (try simp only [Act.put, List.setIfInBounds_toArray]); (try dsimp only [List.set_cons_succ, List.set_cons_zero])
        refine htakeR (i := 7) (v := ?_) (some 23) rfl rfl (by kernel_rfl) (by kernel_rfl) (by kernel_rfl) (fun _ _ _ h => h) (Or.inl ⟨by rfl, ?_⟩) (by assumption) ?_; rotate_left; (focus (intro w hSw; (try dsimp only at hSw); go_simp; (try with_reducible rfl))); (try simp only [Act.put, List.setIfInBounds_toArray]); (try dsimp only [List.set_cons_succ, List.set_cons_zero])
        refine htakeR (i := 8) (v := ?_) (some 24) rfl rfl (by kernel_rfl) (by kernel_rfl) (by kernel_rfl) (fun _ _ _ h => h) (Or.inl ⟨by rfl, ?_⟩) (by assumption) ?_; rotate_left; (focus (intro w hSw; (try dsimp only at hSw); go_simp; (try with_reducible rfl))); (try simp only [Act.put, List.setIfInBounds_toArray]); (try dsimp only [List.set_cons_succ, List.set_cons_zero])
        refine htakeR (i := 9) (v := ?_) (some 25) rfl rfl (by kernel_rfl) (by kernel_rfl) (by kernel_rfl) (fun _ _ _ h => h) (Or.inl ⟨by rfl, ?_⟩) (by assumption) ?_; rotate_left; (focus (intro w hSw; (try dsimp only at hSw); go_simp; (try with_reducible rfl))); (try simp only [Act.put, List.setIfInBounds_toArray]); (try dsimp only [List.set_cons_succ, List.set_cons_zero])
        refine htakeR (i := 10) (v := ?_) (some 26) rfl rfl (by kernel_rfl) (by kernel_rfl) (by kernel_rfl) (fun _ _ _ h => h) (Or.inl ⟨by rfl, ?_⟩) (by assumption) ?_; rotate_left; (focus (intro w hSw; (try dsimp only at hSw); go_simp; (try with_reducible rfl))); (try simp only [Act.put, List.setIfInBounds_toArray]); (try dsimp only [List.set_cons_succ, List.set_cons_zero])
        refine htakeR (i := 11) (v := ?_) (some 27) rfl rfl (by kernel_rfl) (by kernel_rfl) (by kernel_rfl) (fun _ _ _ h => h) (Or.inl ⟨by rfl, ?_⟩) (by assumption) ?_; rotate_left; (focus (intro w hSw; (try dsimp only at hSw); go_simp; (try with_reducible rfl))); (try simp only [Act.put, List.setIfInBounds_toArray]); (try dsimp only [List.set_cons_succ, List.set_cons_zero])
        refine wpAnyH_ready (rs := [12, 13]) (by kernel_rfl) (by simp) ?_
        refine AllReadyH.cons rfl (fun K hK => ?_) (AllReadyH.cons rfl (fun K hK => ?_) (AllReadyH.nil))
        · go_simp
          refine hK.out _ _ ?_ (fun hHeld => ?_)
          · (try dsimp only); (repeat' (with_reducible first | assumption | refine Ext.drew ?_ | refine Ext.drewN ?_ _ | refine Ext.alloc ?_ _ | exact Ext.refl _ | (refine Ext.setCell ?_ ?_ _; rotate_left; (focus ((try simp); try omega)))))
          clear hK K
          (try simp only [Act.put, List.setIfInBounds_toArray]); (try dsimp only [List.set_cons_succ, List.set_cons_zero])
          refine wpAnyH_ready (rs := [13]) (by kernel_rfl) (by simp) ?_
          refine AllReadyH.cons rfl (fun K hK => ?_) (AllReadyH.nil)
          go_simp
          refine hK.out _ _ ?_ (fun hHeld => ?_)
          · (try dsimp only); (repeat' (with_reducible first | assumption | refine Ext.drew ?_ | refine Ext.drewN ?_ _ | refine Ext.alloc ?_ _ | exact Ext.refl _ | (refine Ext.setCell ?_ ?_ _; rotate_left; (focus ((try simp); try omega)))))
          clear hK K
          (try simp only [Act.put, List.setIfInBounds_toArray]); (try dsimp only [List.set_cons_succ, List.set_cons_zero])
          refine wpAnyH_ready (rs := [14]) (by kernel_rfl) (by simp) ?_
          refine AllReadyH.cons rfl (fun K hK => ?_) (AllReadyH.nil)
          go_simp
          refine hK.out _ _ ?_ (fun hHeld => ?_)
          · (try dsimp only); (repeat' (with_reducible first | assumption | refine Ext.drew ?_ | refine Ext.drewN ?_ _ | refine Ext.alloc ?_ _ | exact Ext.refl _ | (refine Ext.setCell ?_ ?_ _; rotate_left; (focus ((try simp); try omega)))))
          clear hK K
          (try simp only [Act.put, List.setIfInBounds_toArray]); (try dsimp only [List.set_cons_succ, List.set_cons_zero])
          refine wpAnyH_ready (rs := [15]) (by kernel_rfl) (by simp) ?_
          refine AllReadyH.cons rfl (fun K hK => ?_) (AllReadyH.nil)
          go_simp
          refine hK.out _ _ ?_ (fun hHeld => ?_)
          · (try dsimp only); (repeat' (with_reducible first | assumption | refine Ext.drew ?_ | refine Ext.drewN ?_ _ | refine Ext.alloc ?_ _ | exact Ext.refl _ | (refine Ext.setCell ?_ ?_ _; rotate_left; (focus ((try simp); try omega)))))
          clear hK K
          (try simp only [Act.put, List.setIfInBounds_toArray]); (try dsimp only [List.set_cons_succ, List.set_cons_zero])
          refine wpAnyH_done (by kernel_rfl) ?_ _
          go_wp2_with fail
          go_meet
          case rel =>
            exact ⟨wr.heap.size, wr.heap.size + 1, rfl, rfl, by go_simp, by go_simp, by go_simp, by go_simp, hHeld⟩

        · go_simp
          refine hK.out _ _ ?_ (fun hHeld => ?_)
          · (try dsimp only); (repeat' (with_reducible first | assumption | refine Ext.drew ?_ | refine Ext.drewN ?_ _ | refine Ext.alloc ?_ _ | exact Ext.refl _ | (refine Ext.setCell ?_ ?_ _; rotate_left; (focus ((try simp); try omega)))))
          clear hK K
          (try simp only [Act.put, List.setIfInBounds_toArray]); (try dsimp only [List.set_cons_succ, List.set_cons_zero])
          refine wpAnyH_ready (rs := [12]) (by kernel_rfl) (by simp) ?_
          refine AllReadyH.cons rfl (fun K hK => ?_) (AllReadyH.nil)
          go_simp
          refine hK.out _ _ ?_ (fun hHeld => ?_)
          · (try dsimp only); (repeat' (with_reducible first | assumption | refine Ext.drew ?_ | refine Ext.drewN ?_ _ | refine Ext.alloc ?_ _ | exact Ext.refl _ | (refine Ext.setCell ?_ ?_ _; rotate_left; (focus ((try simp); try omega)))))
          clear hK K
          (try simp only [Act.put, List.setIfInBounds_toArray]); (try dsimp only [List.set_cons_succ, List.set_cons_zero])
          refine wpAnyH_ready (rs := [14]) (by kernel_rfl) (by simp) ?_
          refine AllReadyH.cons rfl (fun K hK => ?_) (AllReadyH.nil)
          go_simp
          refine hK.out _ _ ?_ (fun hHeld => ?_)
          · (try dsimp only); (repeat' (with_reducible first | assumption | refine Ext.drew ?_ | refine Ext.drewN ?_ _ | refine Ext.alloc ?_ _ | exact Ext.refl _ | (refine Ext.setCell ?_ ?_ _; rotate_left; (focus ((try simp); try omega)))))
          clear hK K
          (try simp only [Act.put, List.setIfInBounds_toArray]); (try dsimp only [List.set_cons_succ, List.set_cons_zero])
          refine wpAnyH_ready (rs := [15]) (by kernel_rfl) (by simp) ?_
          refine AllReadyH.cons rfl (fun K hK => ?_) (AllReadyH.nil)
          go_simp
          refine hK.out _ _ ?_ (fun hHeld => ?_)
          · (try dsimp only); (repeat' (with_reducible first | assumption | refine Ext.drew ?_ | refine Ext.drewN ?_ _ | refine Ext.alloc ?_ _ | exact Ext.refl _ | (refine Ext.setCell ?_ ?_ _; rotate_left; (focus ((try simp); try omega)))))
          clear hK K
          (try simp only [Act.put, List.setIfInBounds_toArray]); (try dsimp only [List.set_cons_succ, List.set_cons_zero])
          refine wpAnyH_done (by kernel_rfl) ?_ _
          go_wp2_with fail
          go_meet
          case rel =>
            exact ⟨wr.heap.size + 1, wr.heap.size, rfl, rfl, by go_simp, by go_simp, by go_simp, by go_simp, hHeld⟩

      case rest =>
        obtain ⟨p, q, rfl, rfl, p0, p1, q0, q1, hx⟩ := hcut
        have XC := Lib.hid hx
        have zp := cell_lt p0
        have zq := cell_lt q0
        clear hx b0 b1 b2 b3 E0
        by_cases hi : In2 16777216 x y
        · have c1 := Lib.hid fun w => additiveref05_Valid x y true (by rw [decide_eq_true hi]) w
          have HOK1 := Lib.hid (show ∀ (j : Nat) (u v : Int), j < k + 1 → L[j]? = some (u, v) → In2 16777216 u v from fun j u v hj he => by
            rcases Nat.lt_or_ge j k with h' | h'
            · exact HOK.out j u v h' he
            · obtain rfl : j = k := by omega
              rw [HD.out] at he; cases he; exact hi)
          clear hi
          go_wp2_with fail
          refine (c1.out _).mono ?_; rintro e w1 ⟨rfl, x1⟩
          have g0 := x1.keep p0
          have g1 := x1.keep p1
          have g2 := x1.keep q0
          have g3 := x1.keep q1
          have XK := Lib.hid x1
          have zp1 := cell_lt g0
          have zq1 := cell_lt g2
          clear x1
          go_wp2_with fail
          go_roundw
          case rel => exact ⟨k + 1, by go_num, ⟨_, rfl⟩, by omega, HOK1.out, by have := (HX.out.trans XC.out).trans (XK.out); (repeat' (with_reducible first | assumption | refine Ext.drew ?_ | refine Ext.drewN ?_ _ | exact Ext.refl _))⟩
          case measure => simp [intOf]; omega
        · have c1 := Lib.hid fun w => additiveref05_Valid x y false (by rw [decide_eq_false hi]) w
          clear hi
          go_wp2_with fail
          refine (c1.out _).mono ?_; rintro e w1 ⟨rfl, x1⟩
          have X1 := Lib.hid ((HX.out.trans XC.out).trans x1)
          clear x1
          go_wp2_with fail
          go_ret
          exact ⟨rfl, X1.out⟩
    · obtain rfl : k = L.length := by omega
      exact absurd ⟨h8, fun i x y hi => hok i x y (List.getElem?_eq_some_iff.1 hi).1 hi⟩ HU.out
set_option maxHeartbeats 4000000 in
theorem law_PlanarAreas (v : Value) (w : World) (h : Opened w v [.int .i64, .int .i64]) : Calls Try.prog 8 #[v] w fun e w' => e = .returned (.bool true) ∧ Ext w w' := by
  obtain ⟨q, c, L, rfl, hL, _⟩ := pts_of_opened h
  have ka := Lib.hid law_awake5
  by_cases h1 : L.length ≤ 100
  case neg =>
    have d1 := dlt_t (show (100 : Int) < L.length by omega)
    clear h hL h1
    go_enter Try.func8, Try.ntmps8
    go_wp2_with fail
    refine (ka.out _).mono ?_; rintro e w1 ⟨rfl, x_w1⟩
    obtain ⟨k_w1, f_w1⟩ := bcell x_w1
    have X_w1 := Lib.hid (show Ext w w1 from Ext.trans (by (repeat' (with_reducible first | refine Ext.drew ?_ | refine Ext.drewN ?_ _ | refine Ext.alloc ?_ _ | exact Ext.refl _ | fail | (refine Ext.setCell ?_ ?_ _; rotate_left; (focus ((try simp); try omega)))))) x_w1)
    clear x_w1
    go_wp2_with fail
    go_ret
    exact ⟨rfl, by (repeat' (with_reducible first | refine Ext.drew ?_ | refine Ext.drewN ?_ _ | refine Ext.alloc ?_ _ | exact Ext.refl _ | exact X_w1.out | (refine Ext.setCell ?_ ?_ _; rotate_left; (focus ((try simp); try omega)))))⟩
  obtain ⟨r, c1, c2⟩ : ∃ r : Int, (∀ W, Ext w W → Calls Try.prog 29 #[.slice q L.length c] W fun e w' => e = .returned (.int .i64 r) ∧ Ext W w') ∧ ∀ W, Ext w W → Calls Try.prog 30 #[.slice q L.length c] W fun e w' => e = .returned (.int .i64 r) ∧ Ext W w' := by
    by_cases hu : PUse L
    · exact ⟨_, fun W hx => planar_Area2 q c L hu W (hL.ext hx), fun W hx => ref_Area2_yes q c L (by omega) hu W (hL.ext hx)⟩
    · exact ⟨_, fun W hx => planar_Area2_no q c L hu W (hL.ext hx), fun W hx => ref_Area2_no q c L (by omega) hu W (hL.ext hx)⟩
  have C1 := Lib.hid c1; have C2 := Lib.hid c2
  have d1 := dlt_f (show (L.length : Int) ≤ 100 by omega)
  have e1 := beq_t (rfl : r = r)
  clear h hL h1 c1 c2
  go_enter Try.func8, Try.ntmps8
  go_wp2_with fail
  refine (C1.out _ (Ext.refl _)).mono ?_; rintro e w1 ⟨rfl, x_w1⟩
  obtain ⟨k_w1, f_w1⟩ := bcell x_w1
  have X_w1 := Lib.hid (show Ext w w1 from Ext.trans (by (repeat' (with_reducible first | refine Ext.drew ?_ | refine Ext.drewN ?_ _ | refine Ext.alloc ?_ _ | exact Ext.refl _ | fail | (refine Ext.setCell ?_ ?_ _; rotate_left; (focus ((try simp); try omega)))))) x_w1)
  clear x_w1
  go_wp2_with fail
  refine (C2.out _ X_w1.out).mono ?_; rintro e w2 ⟨rfl, x_w2⟩
  obtain ⟨k_w2, f_w2⟩ := bcell x_w2
  have X_w2 := Lib.hid (show Ext w w2 from Ext.trans (by (repeat' (with_reducible first | refine Ext.drew ?_ | refine Ext.drewN ?_ _ | refine Ext.alloc ?_ _ | exact Ext.refl _ | exact X_w1.out | (refine Ext.setCell ?_ ?_ _; rotate_left; (focus ((try simp); try omega)))))) x_w2)
  clear x_w2
  go_wp2_with fail
  refine (ka.out _).mono ?_; rintro e w3 ⟨rfl, x_w3⟩
  obtain ⟨k_w3, f_w3⟩ := bcell x_w3
  have X_w3 := Lib.hid (show Ext w w3 from Ext.trans (by (repeat' (with_reducible first | refine Ext.drew ?_ | refine Ext.drewN ?_ _ | refine Ext.alloc ?_ _ | exact Ext.refl _ | exact X_w2.out | exact X_w1.out | (refine Ext.setCell ?_ ?_ _; rotate_left; (focus ((try simp); try omega)))))) x_w3)
  clear x_w3
  go_wp2_with fail
  go_ret
  exact ⟨rfl, by (repeat' (with_reducible first | refine Ext.drew ?_ | refine Ext.drewN ?_ _ | refine Ext.alloc ?_ _ | exact Ext.refl _ | exact X_w3.out | exact X_w2.out | exact X_w1.out | (refine Ext.setCell ?_ ?_ _; rotate_left; (focus ((try simp); try omega)))))⟩
end Go.Proofs.Ytlogipcffncdcaa

