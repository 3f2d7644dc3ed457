/-
  Contracts of both Bounds.
-/
import Derived.Test.YtkppbkgjfkkelaaVecE
namespace Go.Proofs.Ytkppbkgjfkkelaa
open Go.RowKit
abbrev Tri3 := Int × Int × Int
def sx (v : Tri3) : Int := v.1
def sy (v : Tri3) : Int := v.2.1
def sz (v : Tri3) : Int := v.2.2
theorem vec_coord2 (v : Tri3) (w : World) : Calls Try.prog 32 #[.agg #[.int .i64 v.1, .int .i64 v.2.1, .int .i64 v.2.2]] w fun e w' => e = .returned (.int .i64 (sx v)) ∧ Ext w w' := by
  obtain ⟨x, y, z⟩ := v
  go_enter Try.func32, Try.ntmps32
  go_wp2_with fail
  go_ret
  exact ⟨rfl, (Ext.refl _).alloc _⟩
theorem vec_coord3 (v : Tri3) (w : World) : Calls Try.prog 33 #[.agg #[.int .i64 v.1, .int .i64 v.2.1, .int .i64 v.2.2]] w fun e w' => e = .returned (.int .i64 (sy v)) ∧ Ext w w' := by
  obtain ⟨x, y, z⟩ := v
  go_enter Try.func33, Try.ntmps33
  go_wp2_with fail
  go_ret
  exact ⟨rfl, (Ext.refl _).alloc _⟩
theorem vec_coord4 (v : Tri3) (w : World) : Calls Try.prog 34 #[.agg #[.int .i64 v.1, .int .i64 v.2.1, .int .i64 v.2.2]] w fun e w' => e = .returned (.int .i64 (sz v)) ∧ Ext w w' := by
  obtain ⟨x, y, z⟩ := v
  go_enter Try.func34, Try.ntmps34
  go_wp2_with fail
  go_ret
  exact ⟨rfl, (Ext.refl _).alloc _⟩
/-- Block b holds from cell o on the vectors l. -/
def VS (w : World) (b o : Nat) (l : List Tri3) : Prop := ∀ i v, l[i]? = some v → w.cell? ⟨b, o + i * 3, none⟩ = some (.int .i64 v.1) ∧ w.cell? ⟨b, o + i * 3 + 1, none⟩ = some (.int .i64 v.2.1) ∧ w.cell? ⟨b, o + i * 3 + 2, none⟩ = some (.int .i64 v.2.2)
theorem VS.ext {w w1 : World} {b o : Nat} {l : List Tri3} (h : VS w b o l) (e : Ext w w1) : VS w1 b o l := fun i v hi =>
  ⟨e.keep (h i v hi).1, e.keep (h i v hi).2.1, e.keep (h i v hi).2.2⟩
def mnF (s : Tri3 → Int) (m : Int) (l : List Tri3) : Int := l.foldl (fun a v => min a (s v)) m
def mxF (s : Tri3 → Int) (m : Int) (l : List Tri3) : Int := l.foldl (fun a v => max a (s v)) m
theorem mnF_next (s : Tri3 → Int) (m : Int) (l : List Tri3) (k : Nat) (v : Tri3) (h : l[k]? = some v) : mnF s m (l.take (k + 1)) = min (mnF s m (l.take k)) (s v) := by
  unfold mnF; rw [List.take_add_one, h]; simp [List.foldl_append]
theorem mxF_next (s : Tri3 → Int) (m : Int) (l : List Tri3) (k : Nat) (v : Tri3) (h : l[k]? = some v) : mxF s m (l.take (k + 1)) = max (mxF s m (l.take k)) (s v) := by
  unfold mxF; rw [List.take_add_one, h]; simp [List.foldl_append]
theorem held4 {W w1 : World} {q b o : Nat} {V : Value} {x y z : Int} (h : Ext W w1) (hs : W.cell? ⟨q, 0, none⟩ = some V ∧ W.cell? ⟨b, o, none⟩ = some (.int .i64 x) ∧ W.cell? ⟨b, o + 1, none⟩ = some (.int .i64 y) ∧ W.cell? ⟨b, o + 2, none⟩ = some (.int .i64 z)) :
    w1.cell? ⟨q, 0, none⟩ = some V ∧ w1.cell? ⟨b, o, none⟩ = some (.int .i64 x) ∧ w1.cell? ⟨b, o + 1, none⟩ = some (.int .i64 y) ∧ w1.cell? ⟨b, o + 2, none⟩ = some (.int .i64 z) :=
  ⟨h.keep hs.1, h.keep hs.2.1, h.keep hs.2.2.1, h.keep hs.2.2.2⟩
set_option maxHeartbeats 4000000 in
theorem vec_Bounds1_2 (b o n c q : Nat) (l : List Tri3) (v0 : Tri3) (h0 : l[0]? = some v0) (hl : l.length = n) (hm : (n : Int) ≤ 140737488355328) (w : World) (hv : VS w b o l) (hq : w.cell? ⟨q, 0, none⟩ = some (.slice (some ⟨b, o, none⟩) n c)) :
    Calls Try.prog 31 #[.func (.func 32) #[] #[], .pointer (some ⟨q, 0, none⟩)] w fun e w' => e = .returned (.tuple #[.int .i64 (mnF sx (sx v0) l), .int .i64 (mxF sx (sx v0) l)]) ∧ Ext w w' := by
  have hn : 0 < n := by
    rcases Nat.eq_zero_or_pos n with h | h
    · rw [List.length_eq_zero_iff.1 (hl.trans h)] at h0; cases h0
    · exact h
  have HF := Lib.hid vec_coord2
  have e0 := hv 0 v0 h0
  rw [Nat.zero_mul, Nat.add_zero] at e0
  have c0 := Lib.hid fun w => vec_coord2 v0 w
  have hS := And.intro hq e0
  have HV := Lib.hid hv; have HQ := Lib.hid hq; have HL := Lib.hid hl; have H0 := Lib.hid h0
  have nI : (0 : Int) < n := by omega
  clear hv hq hl h0 e0
  go_enter Try.func31, Try.ntmps31
  go_wp2_with fail
  refine wp_region_held_drew (S := fun w' => w'.cell? ⟨q, 0, none⟩ = some (.slice (some ⟨b, o, none⟩) n c) ∧ w'.cell? ⟨b, o, none⟩ = some (.int .i64 v0.1) ∧ w'.cell? ⟨b, o + 1, none⟩ = some (.int .i64 v0.2.1) ∧ w'.cell? ⟨b, o + 2, none⟩ = some (.int .i64 v0.2.2)) (by kernel_rfl) (by (try dsimp only); first | assumption | go_keep) (fun hHeld => ?_)
  refine htake (i := 0) (v := ?_) (some 9) rfl rfl (by kernel_rfl) (by kernel_rfl) (by kernel_rfl) (fun _ _ _ h => h) (Or.inl ⟨by rfl, ?_⟩) (by assumption) ?_; rotate_left; (focus (intro w hSw; (try dsimp only at hSw); go_simp; (try with_reducible rfl))); (try simp only [Act.put]); (try simp only [List.setIfInBounds_toArray]); (try simp only [List.set_cons_succ]); (try simp only [List.set_cons_zero])
  refine htake (i := 1) (v := ?_) (some 10) rfl rfl (by kernel_rfl) (by kernel_rfl) (by kernel_rfl) (fun _ _ _ h => h) (Or.inl ⟨by rfl, ?_⟩) (by assumption) ?_; rotate_left; (focus (intro w hSw; (try dsimp only at hSw); go_simp; (try with_reducible rfl))); (try simp only [Act.put]); (try simp only [List.setIfInBounds_toArray]); (try simp only [List.set_cons_succ]); (try simp only [List.set_cons_zero])
  refine htake (i := 2) (v := ?_) (some 11) rfl rfl (by kernel_rfl) (by kernel_rfl) (by kernel_rfl) (fun _ _ _ h => h) (Or.inl ⟨by rfl, ?_⟩) (by assumption) ?_; rotate_left; (focus (intro w hSw; (try dsimp only at hSw); go_simp; (try with_reducible rfl))); (try simp only [Act.put]); (try simp only [List.setIfInBounds_toArray]); (try simp only [List.set_cons_succ]); (try simp only [List.set_cons_zero])
  refine htake (i := 3) (v := ?_) (some 12) rfl rfl (by kernel_rfl) (by kernel_rfl) (by kernel_rfl) (fun _ _ _ h => h) (Or.inl ⟨by rfl, ?_⟩) (by assumption) ?_; rotate_left; (focus (intro w hSw; (try dsimp only at hSw); go_simp; (try with_reducible rfl))); (try simp only [Act.put]); (try simp only [List.setIfInBounds_toArray]); (try simp only [List.set_cons_succ]); (try simp only [List.set_cons_zero])
  refine htake (i := 5) (v := ?_) (some 14) rfl rfl (by kernel_rfl) (by kernel_rfl) (by kernel_rfl) (fun _ _ _ h => h) (Or.inl ⟨by rfl, ?_⟩) (by assumption) ?_; rotate_left; (focus (intro w hSw; (try dsimp only at hSw); go_simp; (try with_reducible rfl))); (try simp only [Act.put]); (try simp only [List.setIfInBounds_toArray]); (try simp only [List.set_cons_succ]); (try simp only [List.set_cons_zero])
  refine htake (i := 6) (v := ?_) (some 15) rfl rfl (by kernel_rfl) (by kernel_rfl) (by kernel_rfl) (fun _ _ _ h => h) (Or.inl ⟨by rfl, ?_⟩) (by assumption) ?_; rotate_left; (focus (intro w hSw; (try dsimp only at hSw); go_simp; (try with_reducible rfl))); (try simp only [Act.put]); (try simp only [List.setIfInBounds_toArray]); (try simp only [List.set_cons_succ]); (try simp only [List.set_cons_zero])
  refine htake (i := 7) (v := ?_) (some 16) rfl rfl (by kernel_rfl) (by kernel_rfl) (by kernel_rfl) (fun _ _ _ h => h) (Or.inl ⟨by rfl, ?_⟩) (by assumption) ?_; rotate_left; (focus (intro w hSw; (try dsimp only at hSw); go_simp; (try with_reducible rfl))); (try simp only [Act.put]); (try simp only [List.setIfInBounds_toArray]); (try simp only [List.set_cons_succ]); (try simp only [List.set_cons_zero])
  refine htake (i := 8) (v := ?_) (some 17) rfl rfl (by kernel_rfl) (by kernel_rfl) (by kernel_rfl) (fun _ _ _ h => h) (Or.inl ⟨by rfl, ?_⟩) (by assumption) ?_; rotate_left; (focus (intro w hSw; (try dsimp only at hSw); go_simp; (try with_reducible rfl))); (try simp only [Act.put]); (try simp only [List.setIfInBounds_toArray]); (try simp only [List.set_cons_succ]); (try simp only [List.set_cons_zero])
  refine wpAnyH_ready (rs := [4]) (by kernel_rfl) (by simp) ?_
  refine AllReadyH.cons rfl (fun K hK => ?_) AllReadyH.nil
  go_simp
  refine (c0.out _).mono ?_; rintro e u1 ⟨rfl, g1⟩; have K1 := held4 g1 (by assumption)
  (try go_wp2_with fail)
  refine hK.out _ _ ?_ (fun hHeld => ?_)
  · (try dsimp only); first | assumption | go_keep
  clear hK K
  (try simp only [Act.put]); (try simp only [List.setIfInBounds_toArray]); (try simp only [List.set_cons_succ]); (try simp only [List.set_cons_zero])
  refine wpAnyH_ready (rs := [9]) (by kernel_rfl) (by simp) ?_
  refine AllReadyH.cons rfl (fun K hK => ?_) AllReadyH.nil
  go_simp
  refine (c0.out _).mono ?_; rintro e u2 ⟨rfl, g2⟩; have K2 := held4 g2 (by assumption)
  (try go_wp2_with fail)
  refine hK.out _ _ ?_ (fun hHeld => ?_)
  · (try dsimp only); first | assumption | go_keep
  clear hK K
  (try simp only [Act.put]); (try simp only [List.setIfInBounds_toArray]); (try simp only [List.set_cons_succ]); (try simp only [List.set_cons_zero])
  refine htake (i := 10) (v := ?_) (some 5) rfl rfl (by kernel_rfl) (by kernel_rfl) (by kernel_rfl) (fun _ _ _ h => h) (Or.inl ⟨by rfl, ?_⟩) (by assumption) ?_; rotate_left; (focus (intro w hSw; (try dsimp only at hSw); go_simp; (try with_reducible rfl))); (try simp only [Act.put]); (try simp only [List.setIfInBounds_toArray]); (try simp only [List.set_cons_succ]); (try simp only [List.set_cons_zero])
  refine htake (i := 11) (v := ?_) (some 6) rfl rfl (by kernel_rfl) (by kernel_rfl) (by kernel_rfl) (fun _ _ _ h => h) (Or.inl ⟨by rfl, ?_⟩) (by assumption) ?_; rotate_left; (focus (intro w hSw; (try dsimp only at hSw); go_simp; (try with_reducible rfl))); (try simp only [Act.put]); (try simp only [List.setIfInBounds_toArray]); (try simp only [List.set_cons_succ]); (try simp only [List.set_cons_zero])
  refine wpAnyH_done (by kernel_rfl) ?_ _
  have Y0 : Hid (Ext w u2) := Lib.hid ((((Ext.refl w).drew).trans g1).trans g2)
  clear g1 g2 K1 hS
  go_wp2_with fail
  go_loopw [5, 6, 21] (fun a d i wr => ∃ k : Nat, k ≤ n ∧ i = .int .i64 k ∧ a = .int .i64 (mnF sx (sx v0) (l.take k)) ∧ d = .int .i64 (mxF sx (sx v0) (l.take k)) ∧ Ext w wr) (fun _ _ i _ => n - (intOf i).toNat)
  case atStart => exact ⟨0, by omega, rfl, rfl, rfl, Y0.out⟩
  case round =>
    obtain ⟨k, hk, rfl, rfl, rfl, hx⟩ := hrel
    by_cases h : k < n
    · obtain ⟨v, hvk⟩ : ∃ v, l[k]? = some v := ⟨_, List.getElem?_eq_getElem (by rw [HL.out]; exact h)⟩
      obtain ⟨p1, p2, p3⟩ := (HV.out.ext hx) k v hvk
      have N1 : Hid (min (mnF sx (sx v0) (l.take k)) (sx v) = mnF sx (sx v0) (l.take (k + 1))) := Lib.hid (mnF_next sx _ l k v hvk).symm
      have N2 : Hid (max (mxF sx (sx v0) (l.take k)) (sx v) = mxF sx (sx v0) (l.take (k + 1))) := Lib.hid (mxF_next sx _ l k v hvk).symm
      have cv := Lib.hid fun w => HF.out v w
      have HX := Lib.hid hx
      have kI : (k : Int) < n := by omega
      generalize mnF sx (sx v0) (l.take k) = a1 at *
      generalize mxF sx (sx v0) (l.take k) = a2 at *
      clear hvk hx K2
      go_wp2_with fail
      refine (cv.out _).mono ?_; rintro e w3 ⟨rfl, g3⟩
      obtain ⟨k1, f1⟩ := bcell g3
      have z1 : wr.heap.size < w3.heap.size := by have := g3.size; simp at this; omega
      have Y3 := Lib.hid ((HX.out.alloc _).trans g3)
      clear g3
      go_wp2_with fail
      all_goals
        refine (cv.out _).mono ?_; rintro e w4 ⟨rfl, g4⟩
        have Y4 := Lib.hid (Y3.out.trans g4)
        clear g4
        go_wp2_with fail
        all_goals
          go_roundw
          case rel => exact ⟨k + 1, by omega, by go_num, congrArg (Value.int .i64) (by have := N1.out; omega), congrArg (Value.int .i64) (by have := N2.out; omega), Y4.out⟩
          case measure => simp [intOf]; omega
    · have E1 : Hid (l.take k = l) := Lib.hid (List.take_of_length_le (by rw [HL.out]; omega))
      have HX := Lib.hid hx
      clear hx K2
      go_wp2_with fail
      go_ret2
      exact ⟨ret2 (by rw [E1.out]) (by rw [E1.out]), HX.out⟩
set_option maxHeartbeats 4000000 in
theorem vec_Bounds1_3 (b o n c q : Nat) (l : List Tri3) (v0 : Tri3) (h0 : l[0]? = some v0) (hl : l.length = n) (hm : (n : Int) ≤ 140737488355328) (w : World) (hv : VS w b o l) (hq : w.cell? ⟨q, 0, none⟩ = some (.slice (some ⟨b, o, none⟩) n c)) :
    Calls Try.prog 31 #[.func (.func 33) #[] #[], .pointer (some ⟨q, 0, none⟩)] w fun e w' => e = .returned (.tuple #[.int .i64 (mnF sy (sy v0) l), .int .i64 (mxF sy (sy v0) l)]) ∧ Ext w w' := by
  have hn : 0 < n := by
    rcases Nat.eq_zero_or_pos n with h | h
    · rw [List.length_eq_zero_iff.1 (hl.trans h)] at h0; cases h0
    · exact h
  have HF := Lib.hid vec_coord3
  have e0 := hv 0 v0 h0
  rw [Nat.zero_mul, Nat.add_zero] at e0
  have c0 := Lib.hid fun w => vec_coord3 v0 w
  have hS := And.intro hq e0
  have HV := Lib.hid hv; have HQ := Lib.hid hq; have HL := Lib.hid hl; have H0 := Lib.hid h0
  have nI : (0 : Int) < n := by omega
  clear hv hq hl h0 e0
  go_enter Try.func31, Try.ntmps31
  go_wp2_with fail
  refine wp_region_held_drew (S := fun w' => w'.cell? ⟨q, 0, none⟩ = some (.slice (some ⟨b, o, none⟩) n c) ∧ w'.cell? ⟨b, o, none⟩ = some (.int .i64 v0.1) ∧ w'.cell? ⟨b, o + 1, none⟩ = some (.int .i64 v0.2.1) ∧ w'.cell? ⟨b, o + 2, none⟩ = some (.int .i64 v0.2.2)) (by kernel_rfl) (by (try dsimp only); first | assumption | go_keep) (fun hHeld => ?_)
  refine htake (i := 0) (v := ?_) (some 9) rfl rfl (by kernel_rfl) (by kernel_rfl) (by kernel_rfl) (fun _ _ _ h => h) (Or.inl ⟨by rfl, ?_⟩) (by assumption) ?_; rotate_left; (focus (intro w hSw; (try dsimp only at hSw); go_simp; (try with_reducible rfl))); (try simp only [Act.put]); (try simp only [List.setIfInBounds_toArray]); (try simp only [List.set_cons_succ]); (try simp only [List.set_cons_zero])
  refine htake (i := 1) (v := ?_) (some 10) rfl rfl (by kernel_rfl) (by kernel_rfl) (by kernel_rfl) (fun _ _ _ h => h) (Or.inl ⟨by rfl, ?_⟩) (by assumption) ?_; rotate_left; (focus (intro w hSw; (try dsimp only at hSw); go_simp; (try with_reducible rfl))); (try simp only [Act.put]); (try simp only [List.setIfInBounds_toArray]); (try simp only [List.set_cons_succ]); (try simp only [List.set_cons_zero])
  refine htake (i := 2) (v := ?_) (some 11) rfl rfl (by kernel_rfl) (by kernel_rfl) (by kernel_rfl) (fun _ _ _ h => h) (Or.inl ⟨by rfl, ?_⟩) (by assumption) ?_; rotate_left; (focus (intro w hSw; (try dsimp only at hSw); go_simp; (try with_reducible rfl))); (try simp only [Act.put]); (try simp only [List.setIfInBounds_toArray]); (try simp only [List.set_cons_succ]); (try simp only [List.set_cons_zero])
  refine htake (i := 3) (v := ?_) (some 12) rfl rfl (by kernel_rfl) (by kernel_rfl) (by kernel_rfl) (fun _ _ _ h => h) (Or.inl ⟨by rfl, ?_⟩) (by assumption) ?_; rotate_left; (focus (intro w hSw; (try dsimp only at hSw); go_simp; (try with_reducible rfl))); (try simp only [Act.put]); (try simp only [List.setIfInBounds_toArray]); (try simp only [List.set_cons_succ]); (try simp only [List.set_cons_zero])
  refine htake (i := 5) (v := ?_) (some 14) rfl rfl (by kernel_rfl) (by kernel_rfl) (by kernel_rfl) (fun _ _ _ h => h) (Or.inl ⟨by rfl, ?_⟩) (by assumption) ?_; rotate_left; (focus (intro w hSw; (try dsimp only at hSw); go_simp; (try with_reducible rfl))); (try simp only [Act.put]); (try simp only [List.setIfInBounds_toArray]); (try simp only [List.set_cons_succ]); (try simp only [List.set_cons_zero])
  refine htake (i := 6) (v := ?_) (some 15) rfl rfl (by kernel_rfl) (by kernel_rfl) (by kernel_rfl) (fun _ _ _ h => h) (Or.inl ⟨by rfl, ?_⟩) (by assumption) ?_; rotate_left; (focus (intro w hSw; (try dsimp only at hSw); go_simp; (try with_reducible rfl))); (try simp only [Act.put]); (try simp only [List.setIfInBounds_toArray]); (try simp only [List.set_cons_succ]); (try simp only [List.set_cons_zero])
  refine htake (i := 7) (v := ?_) (some 16) rfl rfl (by kernel_rfl) (by kernel_rfl) (by kernel_rfl) (fun _ _ _ h => h) (Or.inl ⟨by rfl, ?_⟩) (by assumption) ?_; rotate_left; (focus (intro w hSw; (try dsimp only at hSw); go_simp; (try with_reducible rfl))); (try simp only [Act.put]); (try simp only [List.setIfInBounds_toArray]); (try simp only [List.set_cons_succ]); (try simp only [List.set_cons_zero])
  refine htake (i := 8) (v := ?_) (some 17) rfl rfl (by kernel_rfl) (by kernel_rfl) (by kernel_rfl) (fun _ _ _ h => h) (Or.inl ⟨by rfl, ?_⟩) (by assumption) ?_; rotate_left; (focus (intro w hSw; (try dsimp only at hSw); go_simp; (try with_reducible rfl))); (try simp only [Act.put]); (try simp only [List.setIfInBounds_toArray]); (try simp only [List.set_cons_succ]); (try simp only [List.set_cons_zero])
  refine wpAnyH_ready (rs := [4]) (by kernel_rfl) (by simp) ?_
  refine AllReadyH.cons rfl (fun K hK => ?_) AllReadyH.nil
  go_simp
  refine (c0.out _).mono ?_; rintro e u1 ⟨rfl, g1⟩; have K1 := held4 g1 (by assumption)
  (try go_wp2_with fail)
  refine hK.out _ _ ?_ (fun hHeld => ?_)
  · (try dsimp only); first | assumption | go_keep
  clear hK K
  (try simp only [Act.put]); (try simp only [List.setIfInBounds_toArray]); (try simp only [List.set_cons_succ]); (try simp only [List.set_cons_zero])
  refine wpAnyH_ready (rs := [9]) (by kernel_rfl) (by simp) ?_
  refine AllReadyH.cons rfl (fun K hK => ?_) AllReadyH.nil
  go_simp
  refine (c0.out _).mono ?_; rintro e u2 ⟨rfl, g2⟩; have K2 := held4 g2 (by assumption)
  (try go_wp2_with fail)
  refine hK.out _ _ ?_ (fun hHeld => ?_)
  · (try dsimp only); first | assumption | go_keep
  clear hK K
  (try simp only [Act.put]); (try simp only [List.setIfInBounds_toArray]); (try simp only [List.set_cons_succ]); (try simp only [List.set_cons_zero])
  refine htake (i := 10) (v := ?_) (some 5) rfl rfl (by kernel_rfl) (by kernel_rfl) (by kernel_rfl) (fun _ _ _ h => h) (Or.inl ⟨by rfl, ?_⟩) (by assumption) ?_; rotate_left; (focus (intro w hSw; (try dsimp only at hSw); go_simp; (try with_reducible rfl))); (try simp only [Act.put]); (try simp only [List.setIfInBounds_toArray]); (try simp only [List.set_cons_succ]); (try simp only [List.set_cons_zero])
  refine htake (i := 11) (v := ?_) (some 6) rfl rfl (by kernel_rfl) (by kernel_rfl) (by kernel_rfl) (fun _ _ _ h => h) (Or.inl ⟨by rfl, ?_⟩) (by assumption) ?_; rotate_left; (focus (intro w hSw; (try dsimp only at hSw); go_simp; (try with_reducible rfl))); (try simp only [Act.put]); (try simp only [List.setIfInBounds_toArray]); (try simp only [List.set_cons_succ]); (try simp only [List.set_cons_zero])
  refine wpAnyH_done (by kernel_rfl) ?_ _
  have Y0 : Hid (Ext w u2) := Lib.hid ((((Ext.refl w).drew).trans g1).trans g2)
  clear g1 g2 K1 hS
  go_wp2_with fail
  go_loopw [5, 6, 21] (fun a d i wr => ∃ k : Nat, k ≤ n ∧ i = .int .i64 k ∧ a = .int .i64 (mnF sy (sy v0) (l.take k)) ∧ d = .int .i64 (mxF sy (sy v0) (l.take k)) ∧ Ext w wr) (fun _ _ i _ => n - (intOf i).toNat)
  case atStart => exact ⟨0, by omega, rfl, rfl, rfl, Y0.out⟩
  case round =>
    obtain ⟨k, hk, rfl, rfl, rfl, hx⟩ := hrel
    by_cases h : k < n
    · obtain ⟨v, hvk⟩ : ∃ v, l[k]? = some v := ⟨_, List.getElem?_eq_getElem (by rw [HL.out]; exact h)⟩
      obtain ⟨p1, p2, p3⟩ := (HV.out.ext hx) k v hvk
      have N1 : Hid (min (mnF sy (sy v0) (l.take k)) (sy v) = mnF sy (sy v0) (l.take (k + 1))) := Lib.hid (mnF_next sy _ l k v hvk).symm
      have N2 : Hid (max (mxF sy (sy v0) (l.take k)) (sy v) = mxF sy (sy v0) (l.take (k + 1))) := Lib.hid (mxF_next sy _ l k v hvk).symm
      have cv := Lib.hid fun w => HF.out v w
      have HX := Lib.hid hx
      have kI : (k : Int) < n := by omega
      generalize mnF sy (sy v0) (l.take k) = a1 at *
      generalize mxF sy (sy v0) (l.take k) = a2 at *
      clear hvk hx K2
      go_wp2_with fail
      refine (cv.out _).mono ?_; rintro e w3 ⟨rfl, g3⟩
      obtain ⟨k1, f1⟩ := bcell g3
      have z1 : wr.heap.size < w3.heap.size := by have := g3.size; simp at this; omega
      have Y3 := Lib.hid ((HX.out.alloc _).trans g3)
      clear g3
      go_wp2_with fail
      all_goals
        refine (cv.out _).mono ?_; rintro e w4 ⟨rfl, g4⟩
        have Y4 := Lib.hid (Y3.out.trans g4)
        clear g4
        go_wp2_with fail
        all_goals
          go_roundw
          case rel => exact ⟨k + 1, by omega, by go_num, congrArg (Value.int .i64) (by have := N1.out; omega), congrArg (Value.int .i64) (by have := N2.out; omega), Y4.out⟩
          case measure => simp [intOf]; omega
    · have E1 : Hid (l.take k = l) := Lib.hid (List.take_of_length_le (by rw [HL.out]; omega))
      have HX := Lib.hid hx
      clear hx K2
      go_wp2_with fail
      go_ret2
      exact ⟨ret2 (by rw [E1.out]) (by rw [E1.out]), HX.out⟩
set_option maxHeartbeats 4000000 in
theorem vec_Bounds1_4 (b o n c q : Nat) (l : List Tri3) (v0 : Tri3) (h0 : l[0]? = some v0) (hl : l.length = n) (hm : (n : Int) ≤ 140737488355328) (w : World) (hv : VS w b o l) (hq : w.cell? ⟨q, 0, none⟩ = some (.slice (some ⟨b, o, none⟩) n c)) :
    Calls Try.prog 31 #[.func (.func 34) #[] #[], .pointer (some ⟨q, 0, none⟩)] w fun e w' => e = .returned (.tuple #[.int .i64 (mnF sz (sz v0) l), .int .i64 (mxF sz (sz v0) l)]) ∧ Ext w w' := by
  have hn : 0 < n := by
    rcases Nat.eq_zero_or_pos n with h | h
    · rw [List.length_eq_zero_iff.1 (hl.trans h)] at h0; cases h0
    · exact h
  have HF := Lib.hid vec_coord4
  have e0 := hv 0 v0 h0
  rw [Nat.zero_mul, Nat.add_zero] at e0
  have c0 := Lib.hid fun w => vec_coord4 v0 w
  have hS := And.intro hq e0
  have HV := Lib.hid hv; have HQ := Lib.hid hq; have HL := Lib.hid hl; have H0 := Lib.hid h0
  have nI : (0 : Int) < n := by omega
  clear hv hq hl h0 e0
  go_enter Try.func31, Try.ntmps31
  go_wp2_with fail
  refine wp_region_held_drew (S := fun w' => w'.cell? ⟨q, 0, none⟩ = some (.slice (some ⟨b, o, none⟩) n c) ∧ w'.cell? ⟨b, o, none⟩ = some (.int .i64 v0.1) ∧ w'.cell? ⟨b, o + 1, none⟩ = some (.int .i64 v0.2.1) ∧ w'.cell? ⟨b, o + 2, none⟩ = some (.int .i64 v0.2.2)) (by kernel_rfl) (by (try dsimp only); first | assumption | go_keep) (fun hHeld => ?_)
  refine htake (i := 0) (v := ?_) (some 9) rfl rfl (by kernel_rfl) (by kernel_rfl) (by kernel_rfl) (fun _ _ _ h => h) (Or.inl ⟨by rfl, ?_⟩) (by assumption) ?_; rotate_left; (focus (intro w hSw; (try dsimp only at hSw); go_simp; (try with_reducible rfl))); (try simp only [Act.put]); (try simp only [List.setIfInBounds_toArray]); (try simp only [List.set_cons_succ]); (try simp only [List.set_cons_zero])
  refine htake (i := 1) (v := ?_) (some 10) rfl rfl (by kernel_rfl) (by kernel_rfl) (by kernel_rfl) (fun _ _ _ h => h) (Or.inl ⟨by rfl, ?_⟩) (by assumption) ?_; rotate_left; (focus (intro w hSw; (try dsimp only at hSw); go_simp; (try with_reducible rfl))); (try simp only [Act.put]); (try simp only [List.setIfInBounds_toArray]); (try simp only [List.set_cons_succ]); (try simp only [List.set_cons_zero])
  refine htake (i := 2) (v := ?_) (some 11) rfl rfl (by kernel_rfl) (by kernel_rfl) (by kernel_rfl) (fun _ _ _ h => h) (Or.inl ⟨by rfl, ?_⟩) (by assumption) ?_; rotate_left; (focus (intro w hSw; (try dsimp only at hSw); go_simp; (try with_reducible rfl))); (try simp only [Act.put]); (try simp only [List.setIfInBounds_toArray]); (try simp only [List.set_cons_succ]); (try simp only [List.set_cons_zero])
  refine htake (i := 3) (v := ?_) (some 12) rfl rfl (by kernel_rfl) (by kernel_rfl) (by kernel_rfl) (fun _ _ _ h => h) (Or.inl ⟨by rfl, ?_⟩) (by assumption) ?_; rotate_left; (focus (intro w hSw; (try dsimp only at hSw); go_simp; (try with_reducible rfl))); (try simp only [Act.put]); (try simp only [List.setIfInBounds_toArray]); (try simp only [List.set_cons_succ]); (try simp only [List.set_cons_zero])
  refine htake (i := 5) (v := ?_) (some 14) rfl rfl (by kernel_rfl) (by kernel_rfl) (by kernel_rfl) (fun _ _ _ h => h) (Or.inl ⟨by rfl, ?_⟩) (by assumption) ?_; rotate_left; (focus (intro w hSw; (try dsimp only at hSw); go_simp; (try with_reducible rfl))); (try simp only [Act.put]); (try simp only [List.setIfInBounds_toArray]); (try simp only [List.set_cons_succ]); (try simp only [List.set_cons_zero])
  refine htake (i := 6) (v := ?_) (some 15) rfl rfl (by kernel_rfl) (by kernel_rfl) (by kernel_rfl) (fun _ _ _ h => h) (Or.inl ⟨by rfl, ?_⟩) (by assumption) ?_; rotate_left; (focus (intro w hSw; (try dsimp only at hSw); go_simp; (try with_reducible rfl))); (try simp only [Act.put]); (try simp only [List.setIfInBounds_toArray]); (try simp only [List.set_cons_succ]); (try simp only [List.set_cons_zero])
  refine htake (i := 7) (v := ?_) (some 16) rfl rfl (by kernel_rfl) (by kernel_rfl) (by kernel_rfl) (fun _ _ _ h => h) (Or.inl ⟨by rfl, ?_⟩) (by assumption) ?_; rotate_left; (focus (intro w hSw; (try dsimp only at hSw); go_simp; (try with_reducible rfl))); (try simp only [Act.put]); (try simp only [List.setIfInBounds_toArray]); (try simp only [List.set_cons_succ]); (try simp only [List.set_cons_zero])
  refine htake (i := 8) (v := ?_) (some 17) rfl rfl (by kernel_rfl) (by kernel_rfl) (by kernel_rfl) (fun _ _ _ h => h) (Or.inl ⟨by rfl, ?_⟩) (by assumption) ?_; rotate_left; (focus (intro w hSw; (try dsimp only at hSw); go_simp; (try with_reducible rfl))); (try simp only [Act.put]); (try simp only [List.setIfInBounds_toArray]); (try simp only [List.set_cons_succ]); (try simp only [List.set_cons_zero])
  refine wpAnyH_ready (rs := [4]) (by kernel_rfl) (by simp) ?_
  refine AllReadyH.cons rfl (fun K hK => ?_) AllReadyH.nil
  go_simp
  refine (c0.out _).mono ?_; rintro e u1 ⟨rfl, g1⟩; have K1 := held4 g1 (by assumption)
  (try go_wp2_with fail)
  refine hK.out _ _ ?_ (fun hHeld => ?_)
  · (try dsimp only); first | assumption | go_keep
  clear hK K
  (try simp only [Act.put]); (try simp only [List.setIfInBounds_toArray]); (try simp only [List.set_cons_succ]); (try simp only [List.set_cons_zero])
  refine wpAnyH_ready (rs := [9]) (by kernel_rfl) (by simp) ?_
  refine AllReadyH.cons rfl (fun K hK => ?_) AllReadyH.nil
  go_simp
  refine (c0.out _).mono ?_; rintro e u2 ⟨rfl, g2⟩; have K2 := held4 g2 (by assumption)
  (try go_wp2_with fail)
  refine hK.out _ _ ?_ (fun hHeld => ?_)
  · (try dsimp only); first | assumption | go_keep
  clear hK K
  (try simp only [Act.put]); (try simp only [List.setIfInBounds_toArray]); (try simp only [List.set_cons_succ]); (try simp only [List.set_cons_zero])
  refine htake (i := 10) (v := ?_) (some 5) rfl rfl (by kernel_rfl) (by kernel_rfl) (by kernel_rfl) (fun _ _ _ h => h) (Or.inl ⟨by rfl, ?_⟩) (by assumption) ?_; rotate_left; (focus (intro w hSw; (try dsimp only at hSw); go_simp; (try with_reducible rfl))); (try simp only [Act.put]); (try simp only [List.setIfInBounds_toArray]); (try simp only [List.set_cons_succ]); (try simp only [List.set_cons_zero])
  refine htake (i := 11) (v := ?_) (some 6) rfl rfl (by kernel_rfl) (by kernel_rfl) (by kernel_rfl) (fun _ _ _ h => h) (Or.inl ⟨by rfl, ?_⟩) (by assumption) ?_; rotate_left; (focus (intro w hSw; (try dsimp only at hSw); go_simp; (try with_reducible rfl))); (try simp only [Act.put]); (try simp only [List.setIfInBounds_toArray]); (try simp only [List.set_cons_succ]); (try simp only [List.set_cons_zero])
  refine wpAnyH_done (by kernel_rfl) ?_ _
  have Y0 : Hid (Ext w u2) := Lib.hid ((((Ext.refl w).drew).trans g1).trans g2)
  clear g1 g2 K1 hS
  go_wp2_with fail
  go_loopw [5, 6, 21] (fun a d i wr => ∃ k : Nat, k ≤ n ∧ i = .int .i64 k ∧ a = .int .i64 (mnF sz (sz v0) (l.take k)) ∧ d = .int .i64 (mxF sz (sz v0) (l.take k)) ∧ Ext w wr) (fun _ _ i _ => n - (intOf i).toNat)
  case atStart => exact ⟨0, by omega, rfl, rfl, rfl, Y0.out⟩
  case round =>
    obtain ⟨k, hk, rfl, rfl, rfl, hx⟩ := hrel
    by_cases h : k < n
    · obtain ⟨v, hvk⟩ : ∃ v, l[k]? = some v := ⟨_, List.getElem?_eq_getElem (by rw [HL.out]; exact h)⟩
      obtain ⟨p1, p2, p3⟩ := (HV.out.ext hx) k v hvk
      have N1 : Hid (min (mnF sz (sz v0) (l.take k)) (sz v) = mnF sz (sz v0) (l.take (k + 1))) := Lib.hid (mnF_next sz _ l k v hvk).symm
      have N2 : Hid (max (mxF sz (sz v0) (l.take k)) (sz v) = mxF sz (sz v0) (l.take (k + 1))) := Lib.hid (mxF_next sz _ l k v hvk).symm
      have cv := Lib.hid fun w => HF.out v w
      have HX := Lib.hid hx
      have kI : (k : Int) < n := by omega
      generalize mnF sz (sz v0) (l.take k) = a1 at *
      generalize mxF sz (sz v0) (l.take k) = a2 at *
      clear hvk hx K2
      go_wp2_with fail
      refine (cv.out _).mono ?_; rintro e w3 ⟨rfl, g3⟩
      obtain ⟨k1, f1⟩ := bcell g3
      have z1 : wr.heap.size < w3.heap.size := by have := g3.size; simp at this; omega
      have Y3 := Lib.hid ((HX.out.alloc _).trans g3)
      clear g3
      go_wp2_with fail
      all_goals
        refine (cv.out _).mono ?_; rintro e w4 ⟨rfl, g4⟩
        have Y4 := Lib.hid (Y3.out.trans g4)
        clear g4
        go_wp2_with fail
        all_goals
          go_roundw
          case rel => exact ⟨k + 1, by omega, by go_num, congrArg (Value.int .i64) (by have := N1.out; omega), congrArg (Value.int .i64) (by have := N2.out; omega), Y4.out⟩
          case measure => simp [intOf]; omega
    · have E1 : Hid (l.take k = l) := Lib.hid (List.take_of_length_le (by rw [HL.out]; omega))
      have HX := Lib.hid hx
      clear hx K2
      go_wp2_with fail
      go_ret2
      exact ⟨ret2 (by rw [E1.out]) (by rw [E1.out]), HX.out⟩
end Go.Proofs.Ytkppbkgjfkkelaa

