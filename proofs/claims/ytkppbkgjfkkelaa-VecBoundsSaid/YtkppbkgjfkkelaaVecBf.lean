/-
  Contracts of both Bounds: the empty list, and the document's own.
-/
import Derived.Test.YtkppbkgjfkkelaaVecBe
import Derived.Lib.MinMax
namespace Go.Proofs.Ytkppbkgjfkkelaa
open Go.RowKit
theorem vec_Bounds_none (p : Option Addr) (c : Nat) (w : World) :
    Calls Try.prog 23 #[.slice p 0 c] w fun e w' => e = .returned (.tuple #[.agg #[.int .i64 0, .int .i64 0, .int .i64 0], .agg #[.int .i64 0, .int .i64 0, .int .i64 0], .bool false]) ∧ Ext w w' := by
  have E3 : ∀ A B C : Obj, Ext w (((w.alloc A).alloc B).alloc C) := fun A B C => (((Ext.refl w).alloc A).alloc B).alloc C
  have EE := Lib.hid E3
  clear E3
  go_enter Try.func23, Try.ntmps23
  go_wp2_with fail
  refine bodyPost_ret (v := .tuple #[.agg #[.int .i64 0, .int .i64 0, .int .i64 0], .agg #[.int .i64 0, .int .i64 0, .int .i64 0], .bool false]) (by simp [results, Try.results23, go_sem, *]) rfl ⟨rfl, ?_⟩
  exact EE.out _ _ _
theorem ref_Bounds_none (p : Option Addr) (c : Nat) (w : World) :
    Calls Try.prog 24 #[.slice p 0 c] w fun e w' => e = .returned (.tuple #[.agg #[.int .i64 0, .int .i64 0, .int .i64 0], .agg #[.int .i64 0, .int .i64 0, .int .i64 0], .bool false]) ∧ Ext w w' := by
  have E2 : ∀ A B : Obj, Ext w ((w.alloc A).alloc B) := fun A B => ((Ext.refl w).alloc A).alloc B
  have EE := Lib.hid E2
  clear E2
  go_enter Try.func24, Try.ntmps24
  go_wp2_with fail
  refine bodyPost_ret (v := .tuple #[.agg #[.int .i64 0, .int .i64 0, .int .i64 0], .agg #[.int .i64 0, .int .i64 0, .int .i64 0], .bool false]) (by simp [results, Try.results24, go_sem, *]) rfl ⟨rfl, ?_⟩
  exact EE.out _ _
/-- Block p holds a vector, and may be written. -/
def C3 (w : World) (p : Nat) (x y z : Int) : Prop := w.cell? ⟨p, 0, none⟩ = some (.int .i64 x) ∧ w.cell? ⟨p, 1, none⟩ = some (.int .i64 y) ∧ w.cell? ⟨p, 2, none⟩ = some (.int .i64 z) ∧ w.frozen? ⟨p, 0, none⟩ = false ∧ w.frozen? ⟨p, 1, none⟩ = false ∧ w.frozen? ⟨p, 2, none⟩ = false
set_option maxHeartbeats 4000000 in
theorem ref_Bounds (b o n c : Nat) (l : List Tri3) (v0 : Tri3) (h0 : l[0]? = some v0) (hl : l.length = n) (hm : (n : Int) ≤ 140737488355328) (w : World) (hv : VS w b o l) :
    Calls Try.prog 24 #[.slice (some ⟨b, o, none⟩) n c] w fun e w' => e = .returned (.tuple #[.agg #[.int .i64 (mnF sx (sx v0) l), .int .i64 (mnF sy (sy v0) l), .int .i64 (mnF sz (sz v0) l)], .agg #[.int .i64 (mxF sx (sx v0) l), .int .i64 (mxF sy (sy v0) l), .int .i64 (mxF sz (sz v0) l)], .bool true]) ∧ Ext w w' := by
  have hn : 0 < n := by
    rcases Nat.eq_zero_or_pos n with h | h
    · rw [List.length_eq_zero_iff.1 (hl.trans h)] at h0; cases h0
    · exact h
  have n0 : ((n : Int) == 0) = false := beq_f (by omega)
  have nI : (0 : Int) < n := by omega
  have E2 : ∀ A B : Obj, Ext w ((w.alloc A).alloc B) := fun A B => ((Ext.refl w).alloc A).alloc B
  have e1 := hv 0 v0 h0
  rw [Nat.zero_mul, Nat.add_zero] at e1
  have H0 := Lib.hid h0; have HL := Lib.hid hl; have HV := Lib.hid hv; have EE := Lib.hid E2
  clear h0 hl hv E2
  obtain ⟨e1, e2, e3⟩ := e1
  have bl : b < w.heap.size := cell_lt e1
  have bl1 : b < w.heap.size + 1 := by omega
  have bl2 : b < w.heap.size + 1 + 1 := by omega
  have bl3 : b < w.heap.size + 1 + 1 + 1 := by omega
  go_enter Try.func24, Try.ntmps24
  go_wp2_with fail
  go_region
  · clear bl1 bl2 bl3
    generalize h3 : w.heap.size + 1 + 1 + 1 = B3
    generalize h2 : w.heap.size + 1 + 1 = B2
    have X0 := Lib.hid (Ext.drew (((EE.out (.cells #[.int .i64 0, .int .i64 0, .int .i64 0] 23) (.cells #[.int .i64 0, .int .i64 0, .int .i64 0] 23)).alloc (.cells #[.int .i64 v0.1, .int .i64 v0.2.1, .int .i64 v0.2.2] 23)).alloc (.cells #[.int .i64 v0.1, .int .i64 v0.2.1, .int .i64 v0.2.2] 23)))
    go_wp2_with fail
    go_loopw [22] (fun i wr => ∃ k : Nat, k ≤ n ∧ i = .int .i64 k ∧ B3 < wr.heap.size ∧ C3 wr B2 (mnF sx (sx v0) (l.take k)) (mnF sy (sy v0) (l.take k)) (mnF sz (sz v0) (l.take k)) ∧ C3 wr B3 (mxF sx (sx v0) (l.take k)) (mxF sy (sy v0) (l.take k)) (mxF sz (sz v0) (l.take k)) ∧ C3 wr w.heap.size 0 0 0 ∧ C3 wr (w.heap.size + 1) 0 0 0 ∧ Ext w wr) (fun i _ => n - (intOf i).toNat)
    case atStart =>
      subst h3 h2
      refine ⟨0, by omega, rfl, by simp, ?_, ?_, ?_, ?_, X0.out⟩ <;> simp [C3, mnF, mxF, sx, sy, sz, go_sem]
    case round =>
      obtain ⟨k, hk, rfl, hz, hP, hQ, hA, hB, hx⟩ := hrel
      have z2 : B2 < wr.heap.size := by omega
      have z1 : w.heap.size + 1 < wr.heap.size := by omega
      have z0 : w.heap.size < wr.heap.size := by omega
      have d1 : B2 ≠ B3 := by omega
      have d2 : B3 ≠ B2 := by omega
      obtain ⟨P1, P2, P3, P4, P5, P6⟩ := hP
      obtain ⟨Q1, Q2, Q3, Q4, Q5, Q6⟩ := hQ
      obtain ⟨A1, A2, A3, A4, A5, A6⟩ := hA
      obtain ⟨B1, B2', B3', B4, B5, B6⟩ := hB
      have HX := Lib.hid hx
      by_cases h : k < n
      · obtain ⟨v, hvk⟩ : ∃ v, l[k]? = some v := ⟨_, List.getElem?_eq_getElem (by rw [HL.out]; exact h)⟩
        obtain ⟨p1, p2, p3⟩ := (HV.out.ext hx) k v hvk
        have pl : b < wr.heap.size := cell_lt p1
        have N1 : Hid (min (mnF sx (sx v0) (l.take k)) v.1 = mnF sx (sx v0) (l.take (k + 1))) := Lib.hid (mnF_next sx _ l k v hvk).symm
        have N2 : Hid (min (mnF sy (sy v0) (l.take k)) v.2.1 = mnF sy (sy v0) (l.take (k + 1))) := Lib.hid (mnF_next sy _ l k v hvk).symm
        have N3 : Hid (min (mnF sz (sz v0) (l.take k)) v.2.2 = mnF sz (sz v0) (l.take (k + 1))) := Lib.hid (mnF_next sz _ l k v hvk).symm
        have M1 : Hid (max (mxF sx (sx v0) (l.take k)) v.1 = mxF sx (sx v0) (l.take (k + 1))) := Lib.hid (mxF_next sx _ l k v hvk).symm
        have M2 : Hid (max (mxF sy (sy v0) (l.take k)) v.2.1 = mxF sy (sy v0) (l.take (k + 1))) := Lib.hid (mxF_next sy _ l k v hvk).symm
        have M3 : Hid (max (mxF sz (sz v0) (l.take k)) v.2.2 = mxF sz (sz v0) (l.take (k + 1))) := Lib.hid (mxF_next sz _ l k v hvk).symm
        have kI : (k : Int) < n := by omega
        generalize mnF sx (sx v0) (l.take k) = a1 at *
        generalize mnF sy (sy v0) (l.take k) = a2 at *
        generalize mnF sz (sz v0) (l.take k) = a3 at *
        generalize mxF sx (sx v0) (l.take k) = a4 at *
        generalize mxF sy (sy v0) (l.take k) = a5 at *
        generalize mxF sz (sz v0) (l.take k) = a6 at *
        have H2 := Lib.hid h2; have H3 := Lib.hid h3
        clear hvk hx e1 e2 e3 bl h2 h3 X0
        go_wp2_with fail
        go_roundw
        case rel =>
          have X1 := (set3 (set3 HX.out B2 (by have := H2.out; have := H3.out; omega) (.int .i64 (min a1 v.1)) (.int .i64 (min a2 v.2.1)) (.int .i64 (min a3 v.2.2))) B3 (by have := H2.out; have := H3.out; omega) (.int .i64 (max a4 v.1)) (.int .i64 (max a5 v.2.1)) (.int .i64 (max a6 v.2.2))).alloc (.cells #[.int .i64 v.1, .int .i64 v.2.1, .int .i64 v.2.2] 23)
          have t1 : w.heap.size ≠ B2 := by have := H2.out; omega
          have t2 : w.heap.size ≠ B3 := by have := H3.out; omega
          have t3 : w.heap.size + 1 ≠ B2 := by have := H2.out; omega
          have t4 : w.heap.size + 1 ≠ B3 := by have := H3.out; omega
          refine ⟨k + 1, by omega, by go_num, ?_, ?_, ?_, ?_, ?_, X1⟩
          · simp [World.setCell]; omega
          · rw [← N1.out, ← N2.out, ← N3.out]; clear X1; simp [C3, go_sem, *]
          · rw [← M1.out, ← M2.out, ← M3.out]; clear X1; simp [C3, go_sem, *]
          · clear X1; simp [C3, go_sem, *]
          · clear X1; simp [C3, go_sem, *]
        case measure => simp [intOf]; omega
      · have E1 : Hid (l.take k = l) := Lib.hid (List.take_of_length_le (by rw [HL.out]; omega))
        have t1 : w.heap.size ≠ B2 := by omega
        have t2 : w.heap.size ≠ B3 := by omega
        have t3 : w.heap.size + 1 ≠ B2 := by omega
        have t4 : w.heap.size + 1 ≠ B3 := by omega
        have H2 := Lib.hid h2; have H3 := Lib.hid h3
        have kI : ¬ (k : Int) < n := by omega
        clear hx e1 e2 e3 bl h2 h3 X0
        rw [E1.out] at P1 P2 P3 Q1 Q2 Q3
        go_wp2_with fail
        go_region
        go_wp2_with fail
        have X6 := Lib.hid (Ext.drew (set3 (set3 HX.out w.heap.size (by omega) (.int .i64 (mnF sx (sx v0) l)) (.int .i64 (mnF sy (sy v0) l)) (.int .i64 (mnF sz (sz v0) l))) (w.heap.size + 1) (by omega) (.int .i64 (mxF sx (sx v0) l)) (.int .i64 (mxF sy (sy v0) l)) (.int .i64 (mxF sz (sz v0) l))))
        exact bodyPost_ret (v := .tuple #[.agg #[.int .i64 (mnF sx (sx v0) l), .int .i64 (mnF sy (sy v0) l), .int .i64 (mnF sz (sz v0) l)], .agg #[.int .i64 (mxF sx (sx v0) l), .int .i64 (mxF sy (sy v0) l), .int .i64 (mxF sz (sz v0) l)], .bool true]) (by simp [results, Try.results24, go_sem, *]) rfl ⟨rfl, X6.out⟩
  · clear bl1 bl2 bl3
    generalize h3 : w.heap.size + 1 + 1 + 1 = B3
    generalize h2 : w.heap.size + 1 + 1 = B2
    have X0 := Lib.hid (Ext.drew (((EE.out (.cells #[.int .i64 0, .int .i64 0, .int .i64 0] 23) (.cells #[.int .i64 0, .int .i64 0, .int .i64 0] 23)).alloc (.cells #[.int .i64 v0.1, .int .i64 v0.2.1, .int .i64 v0.2.2] 23)).alloc (.cells #[.int .i64 v0.1, .int .i64 v0.2.1, .int .i64 v0.2.2] 23)))
    go_wp2_with fail
    go_loopw [22] (fun i wr => ∃ k : Nat, k ≤ n ∧ i = .int .i64 k ∧ B3 < wr.heap.size ∧ C3 wr B3 (mnF sx (sx v0) (l.take k)) (mnF sy (sy v0) (l.take k)) (mnF sz (sz v0) (l.take k)) ∧ C3 wr B2 (mxF sx (sx v0) (l.take k)) (mxF sy (sy v0) (l.take k)) (mxF sz (sz v0) (l.take k)) ∧ C3 wr w.heap.size 0 0 0 ∧ C3 wr (w.heap.size + 1) 0 0 0 ∧ Ext w wr) (fun i _ => n - (intOf i).toNat)
    case atStart =>
      subst h3 h2
      refine ⟨0, by omega, rfl, by simp, ?_, ?_, ?_, ?_, X0.out⟩ <;> simp [C3, mnF, mxF, sx, sy, sz, go_sem]
    case round =>
      obtain ⟨k, hk, rfl, hz, hP, hQ, hA, hB, hx⟩ := hrel
      have z2 : B2 < wr.heap.size := by omega
      have z1 : w.heap.size + 1 < wr.heap.size := by omega
      have z0 : w.heap.size < wr.heap.size := by omega
      have d1 : B2 ≠ B3 := by omega
      have d2 : B3 ≠ B2 := by omega
      obtain ⟨P1, P2, P3, P4, P5, P6⟩ := hP
      obtain ⟨Q1, Q2, Q3, Q4, Q5, Q6⟩ := hQ
      obtain ⟨A1, A2, A3, A4, A5, A6⟩ := hA
      obtain ⟨B1, B2', B3', B4, B5, B6⟩ := hB
      have HX := Lib.hid hx
      by_cases h : k < n
      · obtain ⟨v, hvk⟩ : ∃ v, l[k]? = some v := ⟨_, List.getElem?_eq_getElem (by rw [HL.out]; exact h)⟩
        obtain ⟨p1, p2, p3⟩ := (HV.out.ext hx) k v hvk
        have pl : b < wr.heap.size := cell_lt p1
        have N1 : Hid (min (mnF sx (sx v0) (l.take k)) v.1 = mnF sx (sx v0) (l.take (k + 1))) := Lib.hid (mnF_next sx _ l k v hvk).symm
        have N2 : Hid (min (mnF sy (sy v0) (l.take k)) v.2.1 = mnF sy (sy v0) (l.take (k + 1))) := Lib.hid (mnF_next sy _ l k v hvk).symm
        have N3 : Hid (min (mnF sz (sz v0) (l.take k)) v.2.2 = mnF sz (sz v0) (l.take (k + 1))) := Lib.hid (mnF_next sz _ l k v hvk).symm
        have M1 : Hid (max (mxF sx (sx v0) (l.take k)) v.1 = mxF sx (sx v0) (l.take (k + 1))) := Lib.hid (mxF_next sx _ l k v hvk).symm
        have M2 : Hid (max (mxF sy (sy v0) (l.take k)) v.2.1 = mxF sy (sy v0) (l.take (k + 1))) := Lib.hid (mxF_next sy _ l k v hvk).symm
        have M3 : Hid (max (mxF sz (sz v0) (l.take k)) v.2.2 = mxF sz (sz v0) (l.take (k + 1))) := Lib.hid (mxF_next sz _ l k v hvk).symm
        have kI : (k : Int) < n := by omega
        generalize mnF sx (sx v0) (l.take k) = a1 at *
        generalize mnF sy (sy v0) (l.take k) = a2 at *
        generalize mnF sz (sz v0) (l.take k) = a3 at *
        generalize mxF sx (sx v0) (l.take k) = a4 at *
        generalize mxF sy (sy v0) (l.take k) = a5 at *
        generalize mxF sz (sz v0) (l.take k) = a6 at *
        have H2 := Lib.hid h2; have H3 := Lib.hid h3
        clear hvk hx e1 e2 e3 bl h2 h3 X0
        go_wp2_with fail
        go_roundw
        case rel =>
          have X1 := (set3 (set3 HX.out B3 (by have := H2.out; have := H3.out; omega) (.int .i64 (min a1 v.1)) (.int .i64 (min a2 v.2.1)) (.int .i64 (min a3 v.2.2))) B2 (by have := H2.out; have := H3.out; omega) (.int .i64 (max a4 v.1)) (.int .i64 (max a5 v.2.1)) (.int .i64 (max a6 v.2.2))).alloc (.cells #[.int .i64 v.1, .int .i64 v.2.1, .int .i64 v.2.2] 23)
          have t1 : w.heap.size ≠ B2 := by have := H2.out; omega
          have t2 : w.heap.size ≠ B3 := by have := H3.out; omega
          have t3 : w.heap.size + 1 ≠ B2 := by have := H2.out; omega
          have t4 : w.heap.size + 1 ≠ B3 := by have := H3.out; omega
          refine ⟨k + 1, by omega, by go_num, ?_, ?_, ?_, ?_, ?_, X1⟩
          · simp [World.setCell]; omega
          · rw [← N1.out, ← N2.out, ← N3.out]; clear X1; simp [C3, go_sem, *]
          · rw [← M1.out, ← M2.out, ← M3.out]; clear X1; simp [C3, go_sem, *]
          · clear X1; simp [C3, go_sem, *]
          · clear X1; simp [C3, go_sem, *]
        case measure => simp [intOf]; omega
      · have E1 : Hid (l.take k = l) := Lib.hid (List.take_of_length_le (by rw [HL.out]; omega))
        have t1 : w.heap.size ≠ B2 := by omega
        have t2 : w.heap.size ≠ B3 := by omega
        have t3 : w.heap.size + 1 ≠ B2 := by omega
        have t4 : w.heap.size + 1 ≠ B3 := by omega
        have H2 := Lib.hid h2; have H3 := Lib.hid h3
        have kI : ¬ (k : Int) < n := by omega
        clear hx e1 e2 e3 bl h2 h3 X0
        rw [E1.out] at P1 P2 P3 Q1 Q2 Q3
        go_wp2_with fail
        go_region
        go_wp2_with fail
        have X6 := Lib.hid (Ext.drew (set3 (set3 HX.out w.heap.size (by omega) (.int .i64 (mnF sx (sx v0) l)) (.int .i64 (mnF sy (sy v0) l)) (.int .i64 (mnF sz (sz v0) l))) (w.heap.size + 1) (by omega) (.int .i64 (mxF sx (sx v0) l)) (.int .i64 (mxF sy (sy v0) l)) (.int .i64 (mxF sz (sz v0) l))))
        exact bodyPost_ret (v := .tuple #[.agg #[.int .i64 (mnF sx (sx v0) l), .int .i64 (mnF sy (sy v0) l), .int .i64 (mnF sz (sz v0) l)], .agg #[.int .i64 (mxF sx (sx v0) l), .int .i64 (mxF sy (sy v0) l), .int .i64 (mxF sz (sz v0) l)], .bool true]) (by simp [results, Try.results24, go_sem, *]) rfl ⟨rfl, X6.out⟩
end Go.Proofs.Ytkppbkgjfkkelaa

