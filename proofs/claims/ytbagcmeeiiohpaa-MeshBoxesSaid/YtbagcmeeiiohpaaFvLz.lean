/-
  The evaluator is right: append(nil, make([]T, n)...). No program is named here.
-/
import Derived.Test.YtbagcmeeiiohpaaFvLc
import Derived.Laws.BytesString
namespace Go.Proofs.Ytbagcmeeiiohpaa
open Go
section
variable {P : Program} {w0 : World} {fr0 : Nat → Prop} {ρ : Nat → Option Nat} {fr : Nat → Prop} {tm : List AV} {own : Own} {a : Act} {w : World} {o : Oper} {K : Act → World → Prop} {Q : Exit → Act → World → Prop}
  {lk : Nat → Option OB} {key : Nat} {x : AV} {ws : List (Nat × OB)}
theorem run_append_zeros {t t2 ty e : TypeId} {kd : IntKind} {i : TypeInfo} {z : Value} (ht : P.underlying t = some (.slice e)) (ht2 : P.underlying t2 = some (.int kd)) (hi : P.info? e = some i) (hz : i.zero = some z) (hs : 0 < i.size)
    {n : Nat} (h0 : 0 < n) (h63 : (n : Int) ≤ 281474976710656) (h48 : n * i.bytes ≤ 281474976710656) :
    (Builtin.append_ #[t, t2] ty #[.slice none 0 0, .int .i64 (n : Int)]).run P w =
      .ok (.slice (some ⟨w.heap.size, 0, none⟩) n (grownCap w n 0 e)) (w.drew.alloc (.cells (Builtin.zeroCells z.cells n ++ Builtin.zeroCells z.cells (grownCap w n 0 e - n)) e)) := by
  have hn : n ≠ 0 := by omega
  have h63' : ¬ (9223372036854775807 < (n : Int)) := by omega
  have h48' : ¬ (281474976710656 < Builtin.nextslicecap n 0 * i.bytes) := by rw [nextslicecap_zero h0]; omega
  have h48i : ¬ (281474976710656 < (n : Int) * (i.bytes : Int)) := by
    have : (n : Int) * (i.bytes : Int) = ((n * i.bytes : Nat) : Int) := by push_cast; rfl
    omega
  have hw : IntKind.i64.wrap (n : Int) = n := IntWalk.i64_in _ ⟨by omega, by omega⟩
  have hneg : ¬ ((n : Int) < 0) := by omega
  have hsz : ¬ (i.size = 0) := by omega
  simp [Builtin.append_, run_underlying ht, run_underlying ht2, sizeOf, typeInfo, zeroValue, hi, hz, Builtin.lenOf, hn, h63', h48', h48i, hw, hneg, hsz, asInt, asIntOf, Question.forced, run_firstCells_none, newRow, grownCap]
  intro h
  have := Nat.mul_pos h0 hs
  omega
theorem zero_at {z : Value} {n i j s : Nat} {u : Value} (hzs : z.cells.size = s) (hj : j < s) (hi : i < n) (hu : z.cells[j]? = some u) : (Builtin.zeroCells z.cells n)[i * s + j]? = some u := by
  have hin : i * s + j < n * z.cells.size := by
    rw [hzs]
    have : (i + 1) * s ≤ n * s := Nat.mul_le_mul_right _ (by omega)
    rw [Nat.add_mul] at this
    omega
  have hmod : (i * s + j) % z.cells.size = j := by rw [hzs, Nat.mul_comm, Nat.mul_add_mod, Nat.mod_eq_of_lt hj]
  simp only [Builtin.zeroCells, Array.getElem?_map, Array.getElem?_range, hin, if_true, Option.map_some, hmod]
  have hlt2 := (Array.getElem?_eq_some_iff.1 hu).1
  rw [getElem!_pos z.cells j hlt2, ← hu, Array.getElem?_eq_getElem hlt2]
theorem opAppZ_sound (r : Rep w0 fr0 ρ fr tm own a w) (hkey : (∃ ob, (key, ob) ∈ ws) → own.look key = none) {t1 t2 : TypeId} {y z' : Operand}
    (ho : o.op = .call ⟨.builtin .append, #[y, z'], #[t1, t2]⟩) (h : (opAppZ P key t1 t2 (opd tm y) (opd tm z')).val = some (x, ws)) (hK : Fin w0 fr0 ρ fr own a w o K (own.puts ws) x) : o.wp P a w K Q := by
  have hy := r.eval y
  have hy' := r.eval z'
  unfold opAppZ at h
  split at h
  · rename_i kn k n he1 he2
    rw [he1] at hy; rw [he2] at hy'
    have hy : a.eval y = .slice none 0 0 := hy
    have hy' : a.eval z' = .int .i64 n := hy'
    split at h
    · rename_i e kd ht ht2
      split at h
      · rename_i ie ty hie hty
        split at h
        · rename_i z hz
          split at h
          · rename_i kx x0 hx0 hd
            simp only [Bool.and_eq_true, decide_eq_true_eq] at hd
            obtain ⟨hc, h'⟩ := Tr.ite_bad h
            clear h
            simp only [Bool.and_eq_true, decide_eq_true_eq] at hc
            obtain ⟨⟨h1, hb⟩, h63⟩ := hc
            obtain ⟨rfl, rfl⟩ := ret_pair h'
            have hk0 := hkey ⟨_, List.mem_singleton.2 rfl⟩
            have hpos := ty.size_pos
            obtain ⟨m, rfl⟩ : ∃ m : Nat, n = m := ⟨n.toNat, by omega⟩
            simp only [Int.toNat_natCast] at *
            have hb' : m * ie.bytes ≤ 281474976710656 := by
              have : (m : Int) * (ie.bytes : Int) = ((m * ie.bytes : Nat) : Int) := by push_cast; rfl
              omega
            have hrun := run_append_zeros (P := P) (w := w) (ty := o.type) ht ht2 hie hz (by rw [hd.1]; exact hpos) (n := m) (by omega) h63 hb'
            have hge := grownCap_ge w m 0 e
            have hcm := grownCap_le_maxLen w m 0 e (by simp only [maxLen]; omega)
            have hat := heap_alloc_new w.drew (.cells (Builtin.zeroCells z.cells m ++ Builtin.zeroCells z.cells (grownCap w m 0 e - m)) e)
            have hx : Ext w (w.drew.alloc (.cells (Builtin.zeroCells z.cells m ++ Builtin.zeroCells z.cells (grownCap w m 0 e - m)) e)) := ((Ext.refl w).drew).alloc _
            have hsz : (Builtin.zeroCells z.cells m ++ Builtin.zeroCells z.cells (grownCap w m 0 e - m)).size = grownCap w m 0 e * ty.size := by
              simp only [Array.size_append, size_zeroCells, hd.2, ← Nat.add_mul]
              congr 1
              omega
            obtain ⟨r3, g3⟩ := r.toRepM.newRow (w' := w.drew.alloc (.cells (Builtin.zeroCells z.cells m ++ Builtin.zeroCells z.cells (grownCap w m 0 e - m)) e)) hk0 (mu := true) (kl := k) (kn := k) (e := e) (t := ty) (l := List.replicate m x0) (C := grownCap w m 0 e) rfl hx hat hsz (by simpa using hge) hcm
              (fun i x hi => by
                have hlt : i < m := by
                  have := (List.getElem?_eq_some_iff.1 hi).1
                  simpa using this
                have : x0 = x := by simpa [hlt] using hi
                subst this
                have hIs : ty.Is w fr x0 z.cells.toList := Ty.take1_is (own := []) (ρ := fun _ => none) hx0 (ofVs_is true _)
                refine ⟨_, hIs.mono (fun _ h => h) (fun c' hc' o => by rw [(bcell hx).1 _ _ (r.frlt c' hc')]), fun j u hj => ?_⟩
                have hju : j < ty.size := by
                  have := (List.getElem?_eq_some_iff.1 hj).1
                  rw [hIs.length] at this; exact this
                simp only [World.cell?]
                rw [show (w.drew.alloc (.cells (Builtin.zeroCells z.cells m ++ Builtin.zeroCells z.cells (grownCap w m 0 e - m)) e)).heap[w.heap.size]? = _ from hat]
                simp only [Option.isSome_none, Bool.false_eq_true, if_false, Nat.zero_add]
                have hz1 := zero_at (n := m) (i := i) hd.2 hju hlt (by simpa using hj)
                rw [Array.getElem?_append_left (Array.getElem?_eq_some_iff.1 hz1).1]
                exact hz1)
            refine wp_value (u := .slice (some ⟨w.heap.size, 0, none⟩) m (grownCap w m 0 e)) (by simp only [execOp, ho, resolve, invoke, builtin, Sem.run_bind, Sem.run_pure, Result.andThen_ok, List.map_toArray, List.map_cons, List.map_nil, hy, hy', hrun]) (hK (rho ρ key (some w.heap.size)) fr _ _ r3 g3 ?_)
            show SIs _ _ _ key 0 none _
            unfold SIs
            simp only [Own.puts, Own.look_set, if_true, cutLen, List.length_replicate]
            exact ⟨by omega, .inr ⟨w.heap.size, grownCap w m 0 e, _, _, by simp [rho], ⟨_, hat, hsz⟩, rfl, hge, hcm, hcm, fun _ => ⟨by simp, by omega⟩⟩⟩
          · cases h
        · cases h
      · cases h
    · cases h
  · cases h
/-- The cells of numbers. -/
theorem flat_ints {k : IntKind} : ∀ {ys : List Int} {us : List Value}, Flat w fr (.int k) ys us → us = ys.map (Value.int k)
  | ys, us, h => by
    refine List.ext_getElem? fun i => ?_
    by_cases hi : i < ys.length
    · obtain ⟨vs, h1, h2⟩ := h.2.2 i ys[i] (List.getElem?_eq_getElem hi)
      have h1 : vs = [.int k ys[i]] := h1
      subst h1
      have := h2 0 _ rfl
      simp only [Ty.size, Nat.mul_one, Nat.add_zero] at this
      rw [this, List.getElem?_map, List.getElem?_eq_getElem hi]
      rfl
    · have hl : us.length = ys.length * 1 := h.1
      rw [List.getElem?_eq_none (by omega), List.getElem?_eq_none (by simp; omega)]
theorem opConv_sound (r : Rep w0 fr0 ρ fr tm own a w) (hlk : ∀ k ob, lk k = some ob → own.look k = some ob) {s d : TypeId} {y : Operand}
    (ho : o.op = .convert s d y) (h : (opConv P lk o (opd tm) s d (opd tm y)).val = some (x, ws)) (hK : Fin w0 fr0 ρ fr own a w o K (own.puts ws) x) : o.wp P a w K Q := by
  unfold opConv at h
  split at h
  · rename_i e hs hd
    split at h
    · rename_i k1 k2 l he hsrc
      obtain ⟨rfl, rfl⟩ := ret_pair h
      obtain ⟨sa, sc, hu, hl, us, hf, hsa⟩ := srcOf_is r.toRepM hlk hsrc (r.eval y)
      have hus := flat_ints hf
      subst hus
      have hrun : (convert s d (a.eval y)).run P w = .ok (.string (ofInts l)) w := by
        rw [hu, run_convert_bytes_string w s d e sa l.length sc hs he hd]
        by_cases hn : l = []
        · subst hn
          cases sa with
          | none => simp [Conv.bytesToString, ofInts]
          | some ad => exact run_bytesToString w ad 0 sc [] (by simpa using run_loadCells_list (P := P) w ad [] (by simp))
        · obtain ⟨b, o', rfl, hc⟩ := hsa hn
          refine run_bytesToString w ⟨b, o', none⟩ l.length sc l ?_
          have := run_loadCells_list (P := P) w ⟨b, o', none⟩ (l.map (Value.int .u8)) (fun j v hj => by rw [add_plain']; exact hc j v hj)
          simpa using this
      exact wp_pureK r hK (u := .string (ofInts l)) (by simp [execOp, ho, hrun]) rfl
    · cases h
  · exact generic_sound (by rw [ho]; simp) r h hK
end
end Go.Proofs.Ytbagcmeeiiohpaa
