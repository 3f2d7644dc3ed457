/-
  The walk of the law VecBounds: it answers true.
-/
import Derived.Test.YtkppbkgjfkkelaaVecBf
import Derived.Test.YtkppbkgjfkkelaaVecAw
namespace Go.Proofs.Ytkppbkgjfkkelaa
open Go.RowKit
theorem mnF_le (s : Tri3 → Int) (m : Int) (l : List Tri3) : mnF s m l ≤ m ∧ ∀ v ∈ l, mnF s m l ≤ s v := by
  induction l generalizing m with
  | nil => simp [mnF]
  | cons a l ih =>
    obtain ⟨h1, h2⟩ := ih (min m (s a))
    have e : mnF s m (a :: l) = mnF s (min m (s a)) l := rfl
    rw [e]
    refine ⟨by omega, fun v hv => ?_⟩
    rcases List.mem_cons.1 hv with rfl | h
    · omega
    · exact h2 v h
theorem mxF_le (s : Tri3 → Int) (m : Int) (l : List Tri3) : m ≤ mxF s m l ∧ ∀ v ∈ l, s v ≤ mxF s m l := by
  induction l generalizing m with
  | nil => simp [mxF]
  | cons a l ih =>
    obtain ⟨h1, h2⟩ := ih (max m (s a))
    have e : mxF s m (a :: l) = mxF s (max m (s a)) l := rfl
    rw [e]
    refine ⟨by omega, fun v hv => ?_⟩
    rcases List.mem_cons.1 hv with rfl | h
    · omega
    · exact h2 v h
set_option maxHeartbeats 4000000 in
theorem law_VecBounds_none (p : Option Addr) (c : Nat) (hk : Awake4) (w : World) :
    Calls Try.prog 7 #[.slice p 0 c] w fun e w' => e = .returned (.bool true) ∧ Ext w w' := by
  have C1 := Lib.hid fun w => vec_Bounds_none p c w
  have C2 := Lib.hid fun w => ref_Bounds_none p c w
  have N1 := fun w => neq_v 0 0 0 0 0 0 w
  simp at N1
  have KA := Lib.hid hk
  clear hk
  go_enter Try.func7, Try.ntmps7
  go_wp2_with fail
  refine (C1.out _).mono ?_; rintro e w1 ⟨rfl, x1⟩
  have X1 := Lib.hid x1
  clear x1
  go_wp2_with fail
  refine (C2.out _).mono ?_; rintro e w2 ⟨rfl, x2⟩
  obtain ⟨k2, f2⟩ := bcell x2
  obtain ⟨z1, z2⟩ := size2 x2
  have X2 := Lib.hid (X1.out.trans (ext2 x2))
  clear x2
  go_wp2_with fail
  go_loopw [50] (fun i wr => i = .int .i64 0 ∧ Ext w wr) (fun _ _ => 0)
  case atStart => exact ⟨rfl, (X2.out.alloc _).alloc _⟩
  case round =>
    obtain ⟨rfl, hx⟩ := hrel
    have HX := Lib.hid hx
    clear hx
    go_wp2_with fail
    refine (KA.out _).mono ?_; rintro e w3 ⟨rfl, x3⟩
    have X3 := Lib.hid (HX.out.trans x3)
    clear x3
    go_wp2_with fail
    go_ret
    exact ⟨rfl, X3.out⟩
set_option maxHeartbeats 4000000 in
theorem law_VecBounds_mid (b o n c : Nat) (l : List Tri3) (v0 : Tri3) (h0 : l[0]? = some v0) (hl : l.length = n) (hm : n ≤ 300) (hk : Awake4) (w : World) (hv : VS w b o l) :
    Calls Try.prog 7 #[.slice (some ⟨b, o, none⟩) n c] w fun e w' => e = .returned (.bool true) ∧ Ext w w' := by
  have hn : 0 < n := by
    rcases Nat.eq_zero_or_pos n with h | h
    · rw [List.length_eq_zero_iff.1 (hl.trans h)] at h0; cases h0
    · exact h
  have n1 : decide ((300 : Int) < (n : Int)) = false := dlt_f (by omega)
  have n2 : decide ((0 : Int) < (n : Int)) = true := dlt_t (by omega)
  have C1 := Lib.hid fun w hv => vec_Bounds b o n c l v0 h0 hl (by omega) w hv
  have C2 := Lib.hid fun w hv => ref_Bounds b o n c l v0 h0 hl (by omega) w hv
  have I1 := mnF_le sx (sx v0) l
  have I2 := mnF_le sy (sy v0) l
  have I3 := mnF_le sz (sz v0) l
  have J1 := mxF_le sx (sx v0) l
  have J2 := mxF_le sy (sy v0) l
  have J3 := mxF_le sz (sz v0) l
  generalize mnF sx (sx v0) l = a1 at *
  generalize mnF sy (sy v0) l = a2 at *
  generalize mnF sz (sz v0) l = a3 at *
  generalize mxF sx (sx v0) l = a4 at *
  generalize mxF sy (sy v0) l = a5 at *
  generalize mxF sz (sz v0) l = a6 at *
  have i1 := Lib.hid I1.2; have i2 := Lib.hid I2.2; have i3 := Lib.hid I3.2
  have j1 := Lib.hid J1.2; have j2 := Lib.hid J2.2; have j3 := Lib.hid J3.2
  have N1 := fun w => neq_v a1 a2 a3 a1 a2 a3 w
  have N2 := fun w => neq_v a4 a5 a6 a4 a5 a6 w
  simp at N1 N2
  have KA := Lib.hid hk
  have HV := Lib.hid hv
  have HL := Lib.hid hl
  clear hk hv I1 I2 I3 J1 J2 J3 h0 hl
  go_enter Try.func7, Try.ntmps7
  go_wp2_with fail
  refine (C1.out _ HV.out).mono ?_; rintro e w1 ⟨rfl, x1⟩
  have X1 := Lib.hid x1
  clear x1
  go_wp2_with fail
  refine (C2.out _ (HV.out.ext (((X1.out).alloc _).alloc _))).mono ?_; rintro e w2 ⟨rfl, x2⟩
  obtain ⟨k2, f2⟩ := bcell x2
  obtain ⟨z1, z2⟩ := size2 x2
  have X2 := Lib.hid (X1.out.trans (ext2 x2))
  have l1 : w1.cell? ⟨w1.heap.size, 0, none⟩ = none := by simp [World.cell?]
  clear l1
  have q1 : w2.cell? ⟨w1.heap.size, 0, none⟩ = some (.int .i64 a1) := by rw [k2 _ _ (by simp; omega)]; go_simp
  have q2 : w2.cell? ⟨w1.heap.size, 1, none⟩ = some (.int .i64 a2) := by rw [k2 _ _ (by simp; omega)]; go_simp
  have q3 : w2.cell? ⟨w1.heap.size, 2, none⟩ = some (.int .i64 a3) := by rw [k2 _ _ (by simp; omega)]; go_simp
  have q4 : w2.cell? ⟨w1.heap.size + 1, 0, none⟩ = some (.int .i64 a4) := by rw [k2 _ _ (by simp)]; go_simp
  have q5 : w2.cell? ⟨w1.heap.size + 1, 1, none⟩ = some (.int .i64 a5) := by rw [k2 _ _ (by simp)]; go_simp
  have q6 : w2.cell? ⟨w1.heap.size + 1, 2, none⟩ = some (.int .i64 a6) := by rw [k2 _ _ (by simp)]; go_simp
  clear k2 f2 x2
  have Q := Lib.hid (And.intro q1 (And.intro q2 (And.intro q3 (And.intro q4 (And.intro q5 q6)))))
  go_wp2_with fail
  clear q1 q2 q3 q4 q5 q6
  go_loopw [50] (fun i wr => ∃ k : Nat, k ≤ n ∧ i = .int .i64 k ∧ Ext w wr ∧ Ext w2 wr) (fun i _ => n - (intOf i).toNat)
  case atStart => exact ⟨0, by omega, rfl, (X2.out.alloc _).alloc _, ((Ext.refl w2).alloc _).alloc _⟩
  case round =>
    obtain ⟨k, hkn, rfl, hx, hy⟩ := hrel
    have HX := Lib.hid hx
    have HY := Lib.hid hy
    by_cases h : k < n
    · obtain ⟨v, hvk⟩ : ∃ v, (l)[k]? = some v := ⟨_, List.getElem?_eq_getElem (by rw [HL.out]; exact h)⟩
      obtain ⟨p1, p2, p3⟩ := (HV.out.ext hx) k v hvk
      have pl : b < wr.heap.size := cell_lt p1
      have s1 := hy.keep Q.out.1
      have s2 := hy.keep Q.out.2.1
      have s3 := hy.keep Q.out.2.2.1
      have s4 := hy.keep Q.out.2.2.2.1
      have s5 := hy.keep Q.out.2.2.2.2.1
      have s6 := hy.keep Q.out.2.2.2.2.2
      have y1 : w1.heap.size < wr.heap.size := cell_lt s1
      have y2 : w1.heap.size + 1 < wr.heap.size := cell_lt s4
      have hm := List.mem_of_getElem? hvk
      have t1 := dlt_f (i1.out v hm); have t2 := dlt_f (i2.out v hm); have t3 := dlt_f (i3.out v hm)
      have t4 := dlt_f (j1.out v hm); have t5 := dlt_f (j2.out v hm); have t6 := dlt_f (j3.out v hm)
      unfold sx at t1 t4; unfold sy at t2 t5; unfold sz at t3 t6
      have kI : (k : Int) < n := by omega
      clear hx hy hvk hm
      go_wp2_with fail
      go_roundw
      case rel => exact ⟨k + 1, by omega, by go_num, HX.out.alloc _, HY.out.alloc _⟩
      case measure => simp [intOf]; omega
    · have kI : ¬ (k : Int) < n := by omega
      clear hx hy
      go_wp2_with fail
      refine (KA.out _).mono ?_; rintro e w3 ⟨rfl, x3⟩
      have X3 := Lib.hid (HX.out.trans x3)
      clear x3
      go_wp2_with fail
      go_ret
      exact ⟨rfl, X3.out⟩
set_option maxHeartbeats 4000000 in
theorem law_VecBounds_cut (b o n c : Nat) (l : List Tri3) (v0 : Tri3) (h0 : l[0]? = some v0) (hl : l.length = 300) (hm : 300 < n) (hc : n ≤ c) (hk : Awake4) (w : World) (hv : VS w b o l) :
    Calls Try.prog 7 #[.slice (some ⟨b, o, none⟩) n c] w fun e w' => e = .returned (.bool true) ∧ Ext w w' := by
  have n1 : decide ((300 : Int) < (n : Int)) = true := dlt_t (by omega)
  have c1 : (300 : Int) ≤ c := by omega
  have c2 : 300 ≤ c := by omega
  have C1 := Lib.hid fun w hv => vec_Bounds b o 300 c l v0 h0 hl (by omega) w hv
  have C2 := Lib.hid fun w hv => ref_Bounds b o 300 c l v0 h0 hl (by omega) w hv
  have I1 := mnF_le sx (sx v0) l
  have I2 := mnF_le sy (sy v0) l
  have I3 := mnF_le sz (sz v0) l
  have J1 := mxF_le sx (sx v0) l
  have J2 := mxF_le sy (sy v0) l
  have J3 := mxF_le sz (sz v0) l
  generalize mnF sx (sx v0) l = a1 at *
  generalize mnF sy (sy v0) l = a2 at *
  generalize mnF sz (sz v0) l = a3 at *
  generalize mxF sx (sx v0) l = a4 at *
  generalize mxF sy (sy v0) l = a5 at *
  generalize mxF sz (sz v0) l = a6 at *
  have i1 := Lib.hid I1.2; have i2 := Lib.hid I2.2; have i3 := Lib.hid I3.2
  have j1 := Lib.hid J1.2; have j2 := Lib.hid J2.2; have j3 := Lib.hid J3.2
  have N1 := fun w => neq_v a1 a2 a3 a1 a2 a3 w
  have N2 := fun w => neq_v a4 a5 a6 a4 a5 a6 w
  simp at N1 N2
  have KA := Lib.hid hk
  have HV := Lib.hid hv
  have HL := Lib.hid hl
  clear hk hv I1 I2 I3 J1 J2 J3 h0 hl
  go_enter Try.func7, Try.ntmps7
  go_wp2_with fail
  refine (C1.out _ HV.out).mono ?_; rintro e w1 ⟨rfl, x1⟩
  have X1 := Lib.hid x1
  clear x1
  go_wp2_with fail
  refine (C2.out _ (HV.out.ext (((X1.out).alloc _).alloc _))).mono ?_; rintro e w2 ⟨rfl, x2⟩
  obtain ⟨k2, f2⟩ := bcell x2
  obtain ⟨z1, z2⟩ := size2 x2
  have X2 := Lib.hid (X1.out.trans (ext2 x2))
  have l1 : w1.cell? ⟨w1.heap.size, 0, none⟩ = none := by simp [World.cell?]
  clear l1
  have q1 : w2.cell? ⟨w1.heap.size, 0, none⟩ = some (.int .i64 a1) := by rw [k2 _ _ (by simp; omega)]; go_simp
  have q2 : w2.cell? ⟨w1.heap.size, 1, none⟩ = some (.int .i64 a2) := by rw [k2 _ _ (by simp; omega)]; go_simp
  have q3 : w2.cell? ⟨w1.heap.size, 2, none⟩ = some (.int .i64 a3) := by rw [k2 _ _ (by simp; omega)]; go_simp
  have q4 : w2.cell? ⟨w1.heap.size + 1, 0, none⟩ = some (.int .i64 a4) := by rw [k2 _ _ (by simp)]; go_simp
  have q5 : w2.cell? ⟨w1.heap.size + 1, 1, none⟩ = some (.int .i64 a5) := by rw [k2 _ _ (by simp)]; go_simp
  have q6 : w2.cell? ⟨w1.heap.size + 1, 2, none⟩ = some (.int .i64 a6) := by rw [k2 _ _ (by simp)]; go_simp
  clear k2 f2 x2
  have Q := Lib.hid (And.intro q1 (And.intro q2 (And.intro q3 (And.intro q4 (And.intro q5 q6)))))
  go_wp2_with fail
  clear q1 q2 q3 q4 q5 q6
  go_loopw [50] (fun i wr => ∃ k : Nat, k ≤ 300 ∧ i = .int .i64 k ∧ Ext w wr ∧ Ext w2 wr) (fun i _ => 300 - (intOf i).toNat)
  case atStart => exact ⟨0, by omega, rfl, (X2.out.alloc _).alloc _, ((Ext.refl w2).alloc _).alloc _⟩
  case round =>
    obtain ⟨k, hkn, rfl, hx, hy⟩ := hrel
    have HX := Lib.hid hx
    have HY := Lib.hid hy
    by_cases h : k < 300
    · obtain ⟨v, hvk⟩ : ∃ v, (l)[k]? = some v := ⟨_, List.getElem?_eq_getElem (by rw [HL.out]; exact h)⟩
      obtain ⟨p1, p2, p3⟩ := (HV.out.ext hx) k v hvk
      have pl : b < wr.heap.size := cell_lt p1
      have s1 := hy.keep Q.out.1
      have s2 := hy.keep Q.out.2.1
      have s3 := hy.keep Q.out.2.2.1
      have s4 := hy.keep Q.out.2.2.2.1
      have s5 := hy.keep Q.out.2.2.2.2.1
      have s6 := hy.keep Q.out.2.2.2.2.2
      have y1 : w1.heap.size < wr.heap.size := cell_lt s1
      have y2 : w1.heap.size + 1 < wr.heap.size := cell_lt s4
      have hm := List.mem_of_getElem? hvk
      have t1 := dlt_f (i1.out v hm); have t2 := dlt_f (i2.out v hm); have t3 := dlt_f (i3.out v hm)
      have t4 := dlt_f (j1.out v hm); have t5 := dlt_f (j2.out v hm); have t6 := dlt_f (j3.out v hm)
      unfold sx at t1 t4; unfold sy at t2 t5; unfold sz at t3 t6
      have kI : (k : Int) < 300 := by omega
      clear hx hy hvk hm
      go_wp2_with fail
      go_roundw
      case rel => exact ⟨k + 1, by omega, by go_num, HX.out.alloc _, HY.out.alloc _⟩
      case measure => simp [intOf]; omega
    · have kI : ¬ (k : Int) < 300 := by omega
      clear hx hy
      go_wp2_with fail
      refine (KA.out _).mono ?_; rintro e w3 ⟨rfl, x3⟩
      have X3 := Lib.hid (HX.out.trans x3)
      clear x3
      go_wp2_with fail
      go_ret
      exact ⟨rfl, X3.out⟩
end Go.Proofs.Ytkppbkgjfkkelaa

