/-
  The argument of VecBounds, a slice of vectors: opened; read behind the call as before it; the walk.
-/
import Derived.Test.YtkppbkgjfkkelaaLawBo
import Derived.Test.YtkppbkgjfkkelaaFour
import Derived.Deep.Slices
import Derived.Carry
namespace Go.Proofs.Ytkppbkgjfkkelaa
open Go.Joins Go.ChangeShapes Go.WideShapes Go.ChangeAt Go.RowKit Go.ChangeMaps
/-- v is a slice of no vectors, or of the vectors l. -/
def VecsIn (W : World) (v : Value) : Prop := (∃ q c, v = .slice q 0 c) ∨ ∃ (b o n c : Nat) (l : List Tri3), v = .slice (some ⟨b, o, none⟩) n c ∧ l.length = n ∧ 0 < n ∧ n ≤ c ∧ VS W b o l
section
variable {H : Type} {enc : TypeId × Value → H} {W : World} {base : Nat} {sp : Nat → Bool} {hd : Bool}
theorem open_vecs {r : Reach} {b0 : Nat} {v : Value} {d : DataW H} {p : List MemPlace} (hw : Value.okWide Try.prog W r b0 34 v) (h : DataW.Trod enc Try.prog W base sp hd 34 v d p) : VecsIn W v := by
  obtain ⟨fuel, hf⟩ := h
  obtain ⟨_, k1, _⟩ := four_cells
  obtain ⟨a1, n1, c1, rfl⟩ := okWide_slice (e := 23) (by kernel_rfl) hw
  rcases Go.Deep.open_slice (e := 23) (by kernel_rfl) hf with ⟨hc, _⟩ | ⟨a, len, cap, m, n, D, Pl, hc, hb, hl, _, hm, _, hx⟩
  · have : Value.slice a1 n1 c1 = .slice none 0 0 := by simpa [Value.cells] using hc
    exact Or.inl ⟨none, 0, this⟩
  · have hv : Value.slice a1 n1 c1 = .slice (some a) len cap := by simpa [Value.cells] using hc
    rcases Nat.eq_zero_or_pos len with h0 | h0
    · subst h0; exact Or.inl ⟨some a, cap, hv⟩
    · have hlm : len ≤ m := by rw [hm]; split <;> omega
      have each : ∀ i, i < len → ∃ q : Tri3, W.cell? (a.add (i * 3)) = some (.int .i64 q.1) ∧ W.cell? ((a.add (i * 3)).add 1) = some (.int .i64 q.2.1) ∧ W.cell? ((a.add (i * 3)).add 2) = some (.int .i64 q.2.2) := by
        intro i hi
        obtain ⟨cs', h1, h2⟩ := hx i (by omega)
        rw [k1] at h1
        obtain ⟨_, hlen, hcell⟩ := World.cells?_some h1
        match cs', hlen with
        | [c0, c1, c2], _ =>
          obtain ⟨x, y, z, rfl, rfl, rfl, _⟩ := three_ints h2
          have e0 := hcell 0 (by omega)
          have e1 := hcell 1 (by omega)
          have e2 := hcell 2 (by omega)
          exact ⟨(x, y, z), by simpa [Addr.add] using e0, by simpa using e1, by simpa using e2⟩
      obtain ⟨q, hq⟩ := Go.Deep.choose_lt each
      obtain ⟨b, o, spot⟩ := a
      have hspot : spot = none := by simpa [Addr.add] using World.cell?_spot (hq 0 h0).1
      subst hspot
      refine Or.inr ⟨b, o, len, cap, (List.range len).map q, hv, by simp, h0, hl, ?_⟩
      intro i u hu
      have hi : i < len := by
        have := (List.getElem?_eq_some_iff.1 hu).1
        simpa using this
      have e : q i = u := by simpa [hi] using hu
      subst e
      obtain ⟨g0, g1, g2⟩ := hq i hi
      rw [Go.WideShapes.add_plain] at g0 g1 g2
      rw [Go.WideShapes.add_plain] at g1 g2
      exact ⟨g0, g1, g2⟩
theorem stay_vecs {W' : World} {v : Value} {d : DataW H} {ps : List MemPlace} (h : DataW.Trod enc Try.prog W 0 (fun _ => true) true 34 v d ps) (hb : Below W.heap.size W W') (hlt : ∀ x ∈ ps, x.block < W.heap.size) (hsp : ∀ x ∈ ps, sp x.block = true) :
    DataW.Trod enc Try.prog W' 0 sp true 34 v d ps :=
  WideElems.Trod_stays (by kernel_rfl) (by kernel_rfl) (of_decide_eq_true (by kernel_rfl)) h (fun x hx => hb.same (hlt x hx)) (fun x hx => hsp x hx)
end
theorem row_VecBounds (v : Value) (W : World) (h : VecsIn W v) : Calls Try.prog 7 #[v] W fun e w' => e = .returned (.bool true) ∧ Ext W w' := by
  rcases h with ⟨q, c, rfl⟩ | ⟨b, o, n, c, l, rfl, hl, h0, hc, hv⟩
  · exact law_VecBounds_none q c law_awake4 W
  · obtain ⟨v0, hv0⟩ : ∃ v0, l[0]? = some v0 := ⟨_, List.getElem?_eq_getElem (by omega)⟩
    by_cases h3 : n ≤ 300
    · exact law_VecBounds_mid b o n c l v0 hv0 hl h3 law_awake4 W hv
    · refine law_VecBounds_cut b o n c (l.take 300) v0 (by simpa using hv0) (by simp; omega) (by omega) hc law_awake4 W ?_
      intro i u hu
      refine hv i u ?_
      rw [List.getElem?_take] at hu
      split at hu
      · exact hu
      · cases hu
end Go.Proofs.Ytkppbkgjfkkelaa

