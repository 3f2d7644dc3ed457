/-
  The evaluator is right: append(nil, make([]T, n)...). No program is named here.
-/
import Derived.Test.YtacgchandefjgaaFvLc
import Derived.Laws.BytesString
namespace Go.Proofs.Ytacgchandefjgaa
open Go
section
variable {P : Program} {w0 : World} {fr0 : Nat → Prop} {ρ : Nat → Option Nat} {fr : Nat → Prop} {tm : List AV} {own : Own} {a : Act} {w : World} {o : Oper} {K : Act → World → Prop} {Q : Exit → Act → World → Prop}
  {lk : Nat → Option OB} {key : Nat} {x : AV} {ws : List (Nat × OB)}
theorem run_append_zeros {t t2 ty e : TypeId} {kd : IntKind} {i : TypeInfo} {z : Value} (ht : P.underlying t = some (.slice e)) (ht2 : P.underlying t2 = some (.int kd)) (hi : P.info? e = some i) (hz : i.zero = some z) (hs : 0 < i.size)
    {n : Nat} (h0 : 0 < n) (h63 : (n : Int) ≤ 281474976710656) (h48 : n * i.bytes ≤ 281474976710656) :
    (Builtin.append_ #[t, t2] ty #[.slice none 0 0, .int .i64 (n : Int)]).run P w =
      .ok (.slice (some ⟨w.heap.size, 0, none⟩) n (grownCap w n 0 e)) (w.drew.alloc (.cells (Builtin.zeroCells z.cells n ++ Builtin.zeroCells z.cells (grownCap w n 0 e - n)) e)) := by
  have hn : n ≠ 0 := by omega
  have h63' : ¬ (9223372036854775807 < (n : Int)) := by omega
  have h48' : ¬ (281474976710656 < Builtin.nextslicecap n 0 * i.bytes) := by rw [nextslicecap_zero h0]; omega
  have h48i : ¬ (281474976710656 < (n : Int) * (i.bytes : Int)) := by
    have : (n : Int) * (i.bytes : Int) = ((n * i.bytes : Nat) : Int) := by push_cast; rfl
    omega
  have hw : IntKind.i64.wrap (n : Int) = n := IntWalk.i64_in _ ⟨by omega, by omega⟩
  have hneg : ¬ ((n : Int) < 0) := by omega
  have hsz : ¬ (i.size = 0) := by omega
  simp [Builtin.append_, run_underlying ht, run_underlying ht2, sizeOf, typeInfo, zeroValue, hi, hz, Builtin.lenOf, hn, h63', h48', h48i, hw, hneg, hsz, asInt, asIntOf, Question.forced, run_firstCells_none, newRow, grownCap]
  intro h
  have := Nat.mul_pos h0 hs
  omega
theorem zero_at {z : Value} {n i j s : Nat} {u : Value} (hzs : z.cells.size = s) (hj : j < s) (hi : i < n) (hu : z.cells[j]? = some u) : (Builtin.zeroCells z.cells n)[i * s + j]? = some u := by
  have hin : i * s + j < n * z.cells.size := by
    rw [hzs]
    have : (i + 1) * s ≤ n * s := Nat.mul_le_mul_right _ (by omega)
    rw [Nat.add_mul] at this
    omega
  have hmod : (i * s + j) % z.cells.size = j := by rw [hzs, Nat.mul_comm, Nat.mul_add_mod, Nat.mod_eq_of_lt hj]
  simp only [Builtin.zeroCells, Array.getElem?_map, Array.getElem?_range, hin, if_true, Option.map_some, hmod]
  have hlt2 := (Array.getElem?_eq_some_iff.1 hu).1
  rw [getElem!_pos z.cells j hlt2, ← hu, Array.getElem?_eq_getElem hlt2]
theorem opAppZ_sound (r : Rep w0 fr0 ρ fr tm own a w) (hkey : (∃ ob, (key, ob) ∈ ws) → own.look key = none) {t1 t2 : TypeId} {y z' : Operand}
    (ho : o.op = .call ⟨.builtin .append, #[y, z'], #[t1, t2]⟩) (h : (opAppZ P key t1 t2 (opd tm y) (opd tm z')).val = some (x, ws)) (hK : Fin w0 fr0 ρ fr own a w o K (own.puts ws) x) : o.wp P a w K Q := by
  have hy := r.eval y
  have hy' := r.eval z'
  unfold opAppZ at h
  split at h
  · rename_i kn k n he1 he2
    rw [he1] at hy; rw [he2] at hy'
    have hy : a.eval y = .slice none 0 0 := hy
    have hy' : a.eval z' = .int .i64 n := hy'
    split at h
    · rename_i e kd ht ht2
      split at h
      · rename_i ie ty hie hty
        split at h
        · rename_i z hz
          split at h
          · rename_i kx x0 hx0 hd
            simp only [Bool.and_eq_true, decide_eq_true_eq] at hd
            obtain ⟨hc, h'⟩ := Tr.ite_bad h
            clear h
            simp only [Bool.and_eq_true, decide_eq_true_eq] at hc
            obtain ⟨⟨h1, hb⟩, h63⟩ := hc
            obtain ⟨rfl, rfl⟩ := ret_pair h'
            have hk0 := hkey ⟨_, List.mem_singleton.2 rfl⟩
            have hpos := ty.size_pos
            obtain ⟨m, rfl⟩ : ∃ m : Nat, n = m := ⟨n.toNat, by omega⟩
            simp only [Int.toNat_natCast] at *
            have hb' : m * ie.bytes ≤ 281474976710656 := by
              have : (m : Int) * (ie.bytes : Int) = ((m * ie.bytes : Nat) : Int) := by push_cast; rfl
              omega
            have hrun := run_append_zeros (P := P) (w := w) (ty := o.type) ht ht2 hie hz (by rw [hd.1]; exact hpos) (n := m) (by omega) h63 hb'
            have hge := grownCap_ge w m 0 e
            have hcm := grownCap_le_maxLen w m 0 e (by simp only [maxLen]; omega)
            have hat := heap_alloc_new w.drew (.cells (Builtin.zeroCells z.cells m ++ Builtin.zeroCells z.cells (grownCap w m 0 e - m)) e)
            have hx : Ext w (w.drew.alloc (.cells (Builtin.zeroCells z.cells m ++ Builtin.zeroCells z.cells (grownCap w m 0 e - m)) e)) := ((Ext.refl w).drew).alloc _
            have hsz : (Builtin.zeroCells z.cells m ++ Builtin.zeroCells z.cells (grownCap w m 0 e - m)).size = grownCap w m 0 e * ty.size := by
              simp only [Array.size_append, size_zeroCells, hd.2, ← Nat.add_mul]
              congr 1
              omega
            obtain ⟨r3, g3⟩ := r.toRepM.newRow (w' := w.drew.alloc (.cells (Builtin.zeroCells z.cells m ++ Builtin.zeroCells z.cells (grownCap w m 0 e - m)) e)) hk0 (mu := true) (kl := k) (kn := k) (e := e) (t := ty) (l := List.replicate m x0) (C := grownCap w m 0 e) rfl hx hat hsz (by simpa using hge) hcm
              (fun i x hi => by
                have hlt : i < m := by
                  have := (List.getElem?_eq_some_iff.1 hi).1
                  simpa using this
                have : x0 = x := by simpa [hlt] using hi
                subst this
                have hIs : ty.Is w fr x0 z.cells.toList := Ty.take1_is (own := []) (ρ := fun _ => none) hx0 (ofVs_is true _)
                refine ⟨_, hIs.mono (fun _ h => h) (fun c' hc' o => by rw [(bcell hx).1 _ _ (r.frlt c' hc')]), fun j u hj => ?_⟩
                have hju : j < ty.size := by
                  have := (List.getElem?_eq_some_iff.1 hj).1
                  rw [hIs.length] at this; exact this
                simp only [World.cell?]
                rw [show (w.drew.alloc (.cells (Builtin.zeroCells z.cells m ++ Builtin.zeroCells z.cells (grownCap w m 0 e - m)) e)).heap[w.heap.size]? = _ from hat]
                simp only [Option.isSome_none, Bool.false_eq_true, if_false, Nat.zero_add]
                have hz1 := zero_at (n := m) (i := i) hd.2 hju hlt (by simpa using hj)
                rw [Array.getElem?_append_left (Array.getElem?_eq_some_iff.1 hz1).1]
                exact hz1)
            refine wp_value (u := .slice (some ⟨w.heap.size, 0, none⟩) m (grownCap w m 0 e)) (by simp only [execOp, ho, resolve, invoke, builtin, Sem.run_bind, Sem.run_pure, Result.andThen_ok, List.map_toArray, List.map_cons, List.map_nil, hy, hy', hrun]) (hK (rho ρ key (some w.heap.size)) fr _ _ r3 g3 ?_)
            show SIs _ _ _ key 0 none _
            unfold SIs
            simp only [Own.puts, Own.look_set, if_true, cutLen, List.length_replicate]
            exact ⟨by omega, .inr ⟨w.heap.size, grownCap w m 0 e, _, _, by simp [rho], ⟨_, hat, hsz⟩, rfl, hge, hcm, hcm, fun _ => ⟨by simp, by omega⟩⟩⟩
          · cases h
        · cases h
      · cases h
    · cases h
  · cases h
/-- The cells of numbers. -/
theorem flat_ints {k : IntKind} : ∀ {ys : List Int} {us : List Value}, Flat w fr (.int k) ys us → us = ys.map (Value.int k)
  | ys, us, h => by
    refine List.ext_getElem? fun i => ?_
    by_cases hi : i < ys.length
    · obtain ⟨vs, h1, h2⟩ := h.2.2 i ys[i] (List.getElem?_eq_getElem hi)
      have h1 : vs = [.int k ys[i]] := h1
      subst h1
      have := h2 0 _ rfl
      simp only [Ty.size, Nat.mul_one, Nat.add_zero] at this
      rw [this, List.getElem?_map, List.getElem?_eq_getElem hi]
      rfl
    · have hl : us.length = ys.length * 1 := h.1
      rw [List.getElem?_eq_none (by omega), List.getElem?_eq_none (by simp; omega)]
theorem opConv_sound (r : Rep w0 fr0 ρ fr tm own a w) (hlk : ∀ k ob, lk k = some ob → own.look k = some ob) {s d : TypeId} {y : Operand}
    (ho : o.op = .convert s d y) (h : (opConv P lk o (opd tm) s d (opd tm y)).val = some (x, ws)) (hK : Fin w0 fr0 ρ fr own a w o K (own.puts ws) x) : o.wp P a w K Q := by
  unfold opConv at h
  split at h
  · rename_i e hs hd
    split at h
    · rename_i k1 k2 l he hsrc
      obtain ⟨rfl, rfl⟩ := ret_pair h
      obtain ⟨sa, sc, hu, hl, us, hf, hsa⟩ := srcOf_is r.toRepM hlk hsrc (r.eval y)
      have hus := flat_ints hf
      subst hus
      have hrun : (convert s d (a.eval y)).run P w = .ok (.string (ofInts l)) w := by
        rw [hu, run_convert_bytes_string w s d e sa l.length sc hs he hd]
        by_cases hn : l = []
        · subst hn
          cases sa with
          | none => simp [Conv.bytesToString, ofInts]
          | some ad => exact run_bytesToString w ad 0 sc [] (by simpa using run_loadCells_list (P := P) w ad [] (by simp))
        · obtain ⟨b, o', rfl, hc⟩ := hsa hn
          refine run_bytesToString w ⟨b, o', none⟩ l.length sc l ?_
          have := run_loadCells_list (P := P) w ⟨b, o', none⟩ (l.map (Value.int .u8)) (fun j v hj => by rw [add_plain']; exact hc j v hj)
          simpa using this
      exact wp_pureK r hK (u := .string (ofInts l)) (by simp [execOp, ho, hrun]) rfl
    · cases h
  · exact generic_sound (by rw [ho]; simp) r h hK
theorem zeros_flat {ty : Ty} {z : Value} {kx : Bool} {x0 : ty.den} (hx0 : ty.take1 (z.cells.toList.map (CV.ofV true)) = some (kx, x0)) (hz : z.cells.size = ty.size) (m : Nat) : Flat w fr ty (List.replicate m x0) (Builtin.zeroCells z.cells m).toList := by
  have hIs : ty.Is w fr x0 z.cells.toList := Ty.take1_is (own := []) (ρ := fun _ => none) hx0 (ofVs_is true _)
  refine ⟨?_, fun v hv => ?_, fun i x hi => ?_⟩
  · rw [Array.length_toList, size_zeroCells, hz, List.length_replicate]
  · simp only [Builtin.zeroCells, Array.toList_map, List.mem_map, Array.toList_range, List.mem_range] at hv
    obtain ⟨j, hj, rfl⟩ := hv
    have hp : 0 < z.cells.size := by rw [hz]; exact ty.size_pos
    have hlt := Nat.mod_lt j hp
    rw [getElem!_pos z.cells _ hlt]
    exact hIs.one _ (by simp)
  · have hlt : i < m := by
      have := (List.getElem?_eq_some_iff.1 hi).1
      simpa using this
    have : x0 = x := by simpa [hlt] using hi
    subst this
    refine ⟨_, hIs, fun j u hj => ?_⟩
    have hju : j < ty.size := by
      have := (List.getElem?_eq_some_iff.1 hj).1
      rw [hIs.length] at this; exact this
    have := zero_at (n := m) (i := i) hz hju hlt (by simpa using hj)
    simpa using this
theorem opClear_sound (r : Rep w0 fr0 ρ fr tm own a w) (hlk : ∀ k ob, lk k = some ob → own.look k = some ob) {t1 : TypeId} {y : Operand}
    (ho : o.op = .call ⟨.builtin .clear, #[y], #[t1]⟩) (h : (opClear P lk t1 (opd tm y)).val = some (x, ws)) (hK : Fin w0 fr0 ρ fr own a w o K (own.puts ws) x) : o.wp P a w K Q := by
  have hy := r.eval y
  unfold opClear at h
  split at h
  · rename_i e kn k i n ht hey
    rw [hey] at hy
    have run : ∀ {u : Value} {w' : World}, (Builtin.clear_ #[t1] o.type #[a.eval y]).run P w = .ok u w' → (execOp a.eval o).run P w = .ok (.value u) w' := fun hr => by
      simp only [execOp, ho, resolve, invoke, builtin, Sem.run_bind, Sem.run_pure, Result.andThen_ok, List.map_toArray, List.map_cons, List.map_nil, hr]
    split at h
    · rename_i ie kl kn' e' ty l hie hk
      split at h
      · rename_i z hz
        split at h
        · rename_i kx x0 hx0 hd
          have hd := of_decide_eq_true hd
          obtain ⟨rfl, rfl⟩ := ret_pair h
          have hk := hlk _ _ hk
          obtain ⟨h0, hcl, ad, c, hu1, h1, h2, h3⟩ := sis_row r.toRepM hk hy
          generalize hm : cutLen l i n = m at *
          have hpos := ty.size_pos
          have hspl : ∀ {q : List ty.den}, q = [] → i ≤ l.length → splice l i q = l := fun hq hi => by subst hq; simp [splice]
          by_cases hm0 : m = 0
          · have hr : (Builtin.clear_ #[t1] o.type #[a.eval y]).run P w = .ok (.tuple #[]) w := by
              rw [hu1, hm0]
              cases ad <;> simp [Builtin.clear_, run_und ht]
            have hs : splice l i (List.replicate m x0) = l := hspl (by simp [hm0]) (by omega)
            rw [hs] at hK
            have hkeep : Keeps (.row true kl kn' e' ty l) (.row true kl kn' e' ty l) := .inr (.inr ⟨_, _, _, _, _, _, _, _, _, _, rfl, rfl, rfl⟩)
            have hrho : rho ρ k (ρ k) = ρ := by funext j; unfold rho; split <;> simp_all
            obtain ⟨r3, g3⟩ := r.toRepM.put (k := k) (ob := .row true kl kn' e' ty l) (b := ρ k) (fun o' ho' => by rw [hk] at ho'; cases ho'; exact ⟨rfl, hkeep⟩)
              (fun _ k' o' c hne ha hb hc e2 => hne (r.inj k' k o' _ c ha hk hb trivial hc e2)) (fun _ e2 => by cases e2)
              (fun _ _ _ _ _ _ e2 => by
                cases e2
                rcases r.rows k _ _ _ _ _ _ hk with h | ⟨b, C, h4, h5⟩
                · exact .inl h
                · exact .inr ⟨b, C, h4, h5⟩)
            rw [hrho] at r3 g3
            exact wp_value (run hr) (hK _ fr _ _ r3 g3 ⟨_, rfl, rfl⟩)
          · rcases h3 with ⟨_, _, hz'⟩ | ⟨b, C, h4, h5, h6, h7, h8, h9⟩
            · omega
            · obtain ⟨rfl, h10⟩ := h9 (.inr (by omega))
              rcases r.rows k true kl kn' e' ty l hk with ⟨h13, _⟩ | ⟨b', C', h13, h14, _, _, _, _, h15, _⟩
              · rw [h4] at h13; cases h13
              · rw [h4] at h13; cases h13
                have hf : Flat w fr ty (List.replicate m x0) (Builtin.zeroCells z.cells m).toList := zeros_flat hx0 hd m
                generalize hus : (Builtin.zeroCells z.cells m).toList = us at hf
                have htl : us.length = m * ty.size := by rw [hf.1, List.length_replicate]
                obtain ⟨ul, hfl, hul⟩ := flat_of_row h8
                have hull : ul.length = l.length * ty.size := hfl.1
                have himl : i + m ≤ l.length := by omega
                have hin : i * ty.size + us.length ≤ ul.length := by
                  rw [htl, hull, ← Nat.add_mul]; exact Nat.mul_le_mul_right _ himl
                have hul' : ∀ (j : Nat) u, ul[j]? = some u → w.cell? ⟨b, 0 + j, none⟩ = some u := hul
                have hst := run_storeCells_cells (P := P) b (i * ty.size) us 0 w (fun j hj => by
                    have := hul' (i * ty.size + 0 + j) ul[i * ty.size + 0 + j] (List.getElem?_eq_getElem (by omega))
                    rw [Nat.zero_add] at this
                    rw [this]; rfl) (fun j _ => h5.fz _) (fun v hv => hf.2.1 v hv)
                have hr : (Builtin.clear_ #[t1] o.type #[a.eval y]).run P w = .ok (.tuple #[]) (w.setCells b (i * ty.size) us) := by
                  rw [hu1]
                  simp only [Nat.add_zero] at hst
                  obtain ⟨m', rfl⟩ : ∃ m', m = m' + 1 := ⟨m - 1, by omega⟩
                  simp [Builtin.clear_, run_und ht, zeroValue, hie, hz, typeInfo, hus, hst]
                obtain ⟨r3, g3⟩ := r.toRepM.stored hk trivial h4 (h15 rfl) (i * ty.size) us (ob' := .row true kl kn' e' ty (splice l i (List.replicate m x0)))
                  (.inr (.inr ⟨_, _, _, _, _, _, _, _, _, _, rfl, rfl, splice_len _ _ _ (by simp; omega)⟩)) trivial (fun _ e2 => by cases e2)
                  (fun _ _ _ _ _ _ e2 => by
                    cases e2
                    refine ⟨rfl, C, h5, by rw [splice_len _ _ _ (by simp; omega)]; exact h6, h7, fun j z' hj => ?_⟩
                    have hfr : ∀ c, fr c → ∀ o, (w.setCells b (i * ty.size) us).cell? ⟨c, o, none⟩ = w.cell? ⟨c, o, none⟩ := fun c hc o => by
                      rw [World.cell?_setCells_out b _ _ w _ (fun e3 _ => absurd (e3 ▸ hc) (h15 rfl))]
                    have hget := stored_get (w := w) (b := b) (off := i * ty.size) (zs := us) (base := 0) hul' hin
                    rw [splice_get _ _ _ (by simp; omega)] at hj
                    have hysl : (List.replicate m x0).length = m := by simp
                    by_cases hjr : i ≤ j ∧ j < i + (List.replicate m x0).length
                    · rw [if_pos hjr] at hj
                      obtain ⟨vs, h16, h17⟩ := hf.2.2 _ z' hj
                      refine ⟨vs, h16.mono (fun _ h => h) hfr, fun q v hq => ?_⟩
                      have hql : q < ty.size := by
                        have := (List.getElem?_eq_some_iff.1 hq).1
                        rwa [h16.length] at this
                      have h18 := h17 q v hq
                      have hji : (j - i) * ty.size + ty.size ≤ m * ty.size := by
                        have : (j - i + 1) * ty.size ≤ m * ty.size := Nat.mul_le_mul_right _ (by omega)
                        rwa [Nat.add_mul, Nat.one_mul] at this
                      have hjs : j * ty.size = i * ty.size + (j - i) * ty.size := by rw [← Nat.add_mul]; congr 1; omega
                      have := hget (j * ty.size + q) v (by
                        rw [splice_get _ _ _ hin, if_pos (by rw [htl]; omega), ← h18]
                        congr 1; omega)
                      simp only [Nat.zero_add] at this ⊢
                      exact this
                    · rw [if_neg hjr] at hj
                      obtain ⟨vs, h16, h17⟩ := hfl.2.2 _ z' hj
                      refine ⟨vs, h16.mono (fun _ h => h) hfr, fun q v hq => ?_⟩
                      have hql : q < ty.size := by
                        have := (List.getElem?_eq_some_iff.1 hq).1
                        rwa [h16.length] at this
                      have h18 := h17 q v hq
                      have hout : ¬ (i * ty.size ≤ j * ty.size + q ∧ j * ty.size + q < i * ty.size + us.length) := by
                        rw [htl]
                        rw [hysl] at hjr
                        rcases Nat.lt_or_ge j i with hlt | hge
                        · have : (j + 1) * ty.size ≤ i * ty.size := Nat.mul_le_mul_right _ hlt
                          rw [Nat.add_mul] at this
                          omega
                        · have : (i + m) * ty.size ≤ j * ty.size := Nat.mul_le_mul_right _ (by omega)
                          rw [Nat.add_mul] at this
                          omega
                      have := hget (j * ty.size + q) v (by rw [splice_get _ _ _ hin, if_neg hout]; exact h18)
                      simp only [Nat.zero_add] at this ⊢
                      exact this)
                exact wp_value (run hr) (hK _ fr _ _ r3 g3 ⟨_, rfl, rfl⟩)
        · cases h
      · cases h
    · cases h
  · cases h
end
end Go.Proofs.Ytacgchandefjgaa
