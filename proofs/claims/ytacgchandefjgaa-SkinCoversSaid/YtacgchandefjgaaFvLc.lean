/-
  The evaluator is right: functions that copy a slice (nil for nil, else an own literal of no element that all is appended to), by their bodies. No program is named here.
-/
import Derived.Test.YtacgchandefjgaaFvL
import Derived.Lib.SliceRun
namespace Go.Proofs.Ytacgchandefjgaa
open Go
section
variable {P : Program}
theorem slice_nil_eq (w : World) (t e : TypeId) (a : Option Addr) (n c n' c' : Nat) (h : P.underlying t = some (.slice e)) :
    (binOp .eql t (.slice a n c) (.slice none n' c')).run P w = .ok (.bool a.isNone) w := Lib.run_eql_slice_nil w t e a n c n' c' h
theorem slice_nil_ne (w : World) (t e : TypeId) (a : Option Addr) (n c n' c' : Nat) (h : P.underlying t = some (.slice e)) :
    (binOp .neq t (.slice a n c) (.slice none n' c')).run P w = .ok (.bool (!a.isNone)) w := by
  simp only [binOp]
  simp [Op.equal, Op.maxDepth, Lib.run_equalIn_slice_nil w 9999 t e a n c n' c' h]
theorem isNilTo_ok {d : Nat} {o : Oper} (h : isNilTo d o = true) : o.op = .assign (.const (.slice none 0 0)) ∧ o.dst = some d ∧ o.guard = none := by
  unfold isNilTo at h
  split at h
  · rename_i d' e1 e2 e3
    exact ⟨e1, by rw [e2, Nat.eq_of_beq_eq_true h], e3⟩
  · cases h
theorem isMv_ok {d s : Nat} {o : Oper} (h : isMv d s o = true) : o.op = .move (.tmp s) ∧ o.dst = some d ∧ o.guard = none := by
  unfold isMv at h
  split at h
  · rename_i s' d' e1 e2 e3
    simp only [Bool.and_eq_true] at h
    exact ⟨by rw [e1, Nat.eq_of_beq_eq_true h.2], by rw [e2, Nat.eq_of_beq_eq_true h.1], e3⟩
  · cases h
theorem isCp_ok {d s : Nat} {o : Oper} (h : isCp d s o = true) : o.op = .assign (.tmp s) ∧ o.dst = some d ∧ o.guard = none := by
  unfold isCp at h
  split at h
  · rename_i s' d' e1 e2 e3
    simp only [Bool.and_eq_true] at h
    exact ⟨by rw [e1, Nat.eq_of_beq_eq_true h.2], by rw [e2, Nat.eq_of_beq_eq_true h.1], e3⟩
  · cases h
theorem eqNilT_ok {t : TypeId} {o : Oper} (h : eqNilT o = some t) : (∃ ty, o.op = .binOp .eql t (.tmp 3) (.const (.slice none 0 0)) ty) ∧ o.dst = some 4 ∧ o.guard = none := by
  unfold eqNilT at h
  split at h
  · rename_i t' s ty d e1 e2 e3
    split at h
    · rename_i hb
      simp only [Bool.and_eq_true] at hb
      simp only [Option.some.injEq] at h
      subst h
      exact ⟨⟨ty, by rw [e1, Nat.eq_of_beq_eq_true hb.2]⟩, by rw [e2, Nat.eq_of_beq_eq_true hb.1], e3⟩
    · cases h
  · cases h
theorem isLitZ_ok {t : TypeId} {o : Oper} (h : isLitZ t o = true) : o.op = .buildSlice t 0 #[] ∧ o.dst = some 5 ∧ o.guard = none := by
  unfold isLitZ at h
  split at h
  · rename_i t' n parts d e1 e2 e3
    split at h
    · rename_i hp
      simp only [Bool.and_eq_true, decide_eq_true_eq] at h
      have : parts = #[] := by apply Array.ext'; simpa using hp
      exact ⟨by rw [e1, this, Nat.eq_of_beq_eq_true h.2.1, h.2.2], by rw [e2, Nat.eq_of_beq_eq_true h.1], e3⟩
    · cases h
  · cases h
theorem isAppZ_ok {t : TypeId} {o : Oper} (h : isAppZ t o = true) : o.op = .call ⟨.builtin .append, #[.tmp 5, .tmp 6], #[t, t]⟩ ∧ o.dst = some 7 ∧ o.guard = none := by
  unfold isAppZ at h
  split at h
  · rename_i args ats d e1 e2 e3
    split at h
    · rename_i a b t1 t2 ha hb
      simp only [Bool.and_eq_true, decide_eq_true_eq] at h
      obtain ⟨h1, h2, h3, h4, h5⟩ := h
      have e4 : args = #[.tmp 5, .tmp 6] := by apply Array.ext'; rw [ha, Nat.eq_of_beq_eq_true h2, Nat.eq_of_beq_eq_true h3]
      have e5 : ats = #[t, t] := by apply Array.ext'; rw [hb, h4, h5]
      exact ⟨by rw [e1, e4, e5], by rw [e2, Nat.eq_of_beq_eq_true h1], e3⟩
    · cases h
  · cases h
theorem isT2_ok {l : List ResultVar} (h : isT2 l = true) : l = [.tmp 2] := by
  unfold isT2 at h
  split at h
  · rw [Nat.eq_of_beq_eq_true h]
  · cases h
theorem wpOp_at {ops : Array Oper} {Q : Exit → Act → World → Prop} {i : Nat} {K : Act → World → Prop} {a : Act} {w : World} {o : Oper} (hi : ops.toList[i]? = some o) (hg : o.guard = none) (h : o.wp P a w K Q) : wpOp P ops Q i K a w := by
  unfold wpOp
  rw [← Array.getElem?_toList, hi]
  simp only
  rw [if_pos (by simp [Region.wanted, hg])]
  exact .inl h
theorem wpv {o : Oper} {a : Act} {w w' : World} {K : Act → World → Prop} {Q : Exit → Act → World → Prop} {u : Value} {d : Nat} (hd : o.dst = some d) (h : (execOp a.eval o).run P w = .ok (.value u) w') (hK : K (a.put (some d) u) w') : o.wp P a w K Q :=
  wp_value h (by rw [hd]; exact hK)
/-- The body's runs, for a slice with an address and for nil. -/
theorem clone_calls {n : FuncId} {t e : TypeId} (hct : cloneT P n = some t) (ht : P.underlying t = some (.slice e)) {ie : TypeInfo} (hie : P.info? e = some ie) {ad : Option Addr} {m c : Nat} {w : World} {R : Ending → World → Prop}
    (h0 : ad = none → R (.returned (.slice none 0 0)) w)
    (h1 : ad ≠ none → ∀ ty, ∃ u w', (Builtin.append_ #[t, t] ty #[.slice (some ⟨w.heap.size, 0, none⟩) 0 0, .slice ad m c]).run P (w.alloc (.cells #[] e)) = .ok u w' ∧ R (.returned u) w') :
    Calls P n #[.slice ad m c] w R := by
  unfold cloneT at hct
  split at hct
  · rename_i fn hfn
    split at hct
    · rename_i i0 r0 i1 r1 c4 i2 r2 i3 r3 hb
      split at hct
      · rename_i o0 o1 o2 o3 o4 o5 o6 o7 e0 e1 e2 e3
        split at hct
        · rename_i t' hq
          split at hct
          · rename_i hd
            simp only [Option.some.injEq] at hct
            subst hct
            simp only [Bool.and_eq_true] at hd
            obtain ⟨⟨k0, k1, k3, k4, k5, k6, k7⟩, kc, kn, kr⟩ := hd
            obtain ⟨p0, d0, g0⟩ := isNilTo_ok k0
            obtain ⟨p1, d1, g1⟩ := isMv_ok k1
            obtain ⟨⟨ty2, p2⟩, d2, g2⟩ := eqNilT_ok hq
            obtain ⟨p3, d3, g3⟩ := isNilTo_ok k3
            obtain ⟨p4, d4, g4⟩ := isLitZ_ok k4
            obtain ⟨p5, d5, g5⟩ := isMv_ok k5
            obtain ⟨p6, d6, g6⟩ := isAppZ_ok k6
            obtain ⟨p7, d7, g7⟩ := isCp_ok k7
            have kc := Nat.eq_of_beq_eq_true kc
            have kn := Nat.eq_of_beq_eq_true kn
            have kr := isT2_ok kr
            have kr : fn.results = #[.tmp 2] := by apply Array.ext'; rw [kr]
            subst kc
            have s0 : r0.size = 1 := by rw [← Array.length_toList, e0]; rfl
            have s1 : r1.size = 2 := by rw [← Array.length_toList, e1]; rfl
            have s2 : r2.size = 1 := by rw [← Array.length_toList, e2]; rfl
            have s3 : r3.size = 4 := by rw [← Array.length_toList, e3]; rfl
            refine calls_of_wp hfn hb ?_
            rw [kn]
            show Code.wp P _ _ { tmps := #[.slice ad m c, undef, undef, undef, undef, undef, undef, undef], defers := [] } w
            refine wp_seq (wp_region ?_)
            rw [s0, show List.range 1 = [0] from rfl, wpOps_cons]
            refine wpOp_at (by rw [e0]; rfl) g0 (wpv (u := .slice none 0 0) (w' := w) d0 (by simp [execOp, p0, Act.eval]) ?_)
            show Code.wp P _ _ { tmps := #[.slice ad m c, undef, .slice none 0 0, undef, undef, undef, undef, undef], defers := [] } w
            refine wp_seq (wp_seq (wp_region ?_))
            rw [s1, show List.range 2 = [0, 1] from rfl, wpOps_cons]
            refine wpOp_at (by rw [e1]; rfl) g1 (wpv (u := .slice ad m c) (w' := w) d1 (by simp [execOp, p1, Act.eval]) ?_)
            rw [wpOps_cons]
            refine wpOp_at (by rw [e1]; rfl) g2 (wpv (u := .bool ad.isNone) d2 (w' := w) ?_ ?_)
            · have := slice_nil_eq (P := P) w t' e ad m c 0 0 ht
              simp [execOp, p2, Act.eval, Act.put, eqGuard, this]
            show Code.wp P _ _ { tmps := #[.slice ad m c, undef, .slice none 0 0, .slice ad m c, .bool ad.isNone, undef, undef, undef], defers := [] } w
            cases hn : ad with
            | none =>
              refine wp_cond_true (by simp [Act.eval]) (wp_seq (wp_region ?_))
              rw [s2, show List.range 1 = [0] from rfl, wpOps_cons]
              refine wpOp_at (by rw [e2]; rfl) g3 (wpv (u := .slice none 0 0) (w' := w) d3 (by simp [execOp, p3, Act.eval]) ?_)
              refine wp_ret ?_
              refine ⟨rfl, .slice none 0 0, ?_, h0 hn⟩
              simp [results, kr, Act.put]
            | some q =>
              refine wp_cond_false (by simp [Act.eval]) (wp_skip ?_)
              show Code.wp P _ _ _ w
              refine wp_seq (wp_region ?_)
              rw [s3, show List.range 4 = [0, 1, 2, 3] from rfl, wpOps_cons]
              refine wpOp_at (by rw [e3]; rfl) g4 (wpv (u := .slice (some ⟨w.heap.size, 0, none⟩) 0 0) (w' := w.alloc (.cells #[] e)) d4 ?_ ?_)
              · have : (Instr.buildSlice t' 0 #[]).run P w = .ok (.slice (some ⟨w.heap.size, 0, none⟩) 0 0) (w.alloc (.cells #[] e)) := by
                  simp only [Instr.buildSlice, Sem.run_bind, run_und ht, Result.andThen_ok, run_size hie]
                  rw [if_neg (by simp)]
                  simp [Instr.fill, newRow]
                  congr 2
                  simp [Array.range_zero']
                simp [execOp, p4, this]
              rw [wpOps_cons]
              refine wpOp_at (by rw [e3]; rfl) g5 (wpv (u := .slice ad m c) (w' := w.alloc (.cells #[] e)) d5 (by simp [execOp, p5, Act.eval, Act.put, hn]) ?_)
              rw [wpOps_cons]
              obtain ⟨u, w', hr, hR⟩ := h1 (by rw [hn]; simp) o6.type
              refine wpOp_at (by rw [e3]; rfl) g6 (wpv (u := u) (w' := w') d6 ?_ ?_)
              · simp [execOp, p6, resolve, invoke, builtin, Act.eval, Act.put, hr]
              rw [wpOps_cons]
              refine wpOp_at (by rw [e3]; rfl) g7 (wpv (u := u) (w' := w') d7 (by simp [execOp, p7, Act.eval, Act.put]) ?_)
              refine wp_ret ?_
              refine ⟨rfl, u, ?_, hR⟩
              simp [results, kr, Act.put]
          · cases hct
        · cases hct
      · cases hct
    · cases hct
  · cases hct
end
end Go.Proofs.Ytacgchandefjgaa
