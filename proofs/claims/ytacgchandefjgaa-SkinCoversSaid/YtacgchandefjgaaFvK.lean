/-
  The evaluator is right: slices that are made. No program is named here.
-/
import Derived.Test.YtacgchandefjgaaFvJ
namespace Go.Proofs.Ytacgchandefjgaa
open Go
section
variable {P : Program} {call : CallT} {w0 : World} {fr0 : Nat → Prop} {ρ : Nat → Option Nat} {fr : Nat → Prop} {tm : List AV} {own : Own} {a : Act} {w : World} {o : Oper} {K : Act → World → Prop} {Q : Exit → Act → World → Prop}
  {lk : Nat → Option OB} {key : Nat} {x : AV} {ws : List (Nat × OB)}
theorem elemsOf_is {ty : Ty} : ∀ {qs : List (Nat × List CV)} {i : Nat} {kn : Bool} {l : List ty.den}, elemsOf lk ty i qs = some (kn, l) →
    l.length = qs.length ∧ ∀ (j : Nat) q, qs[j]? = some q → q.1 = i + j ∧ ∃ ds x k', lendL lk q.2 = some ds ∧ ty.take1 ds = some (k', x) ∧ l[j]? = some x
  | [], i, kn, l, h => by
    simp only [elemsOf, Option.some.injEq, Prod.mk.injEq] at h
    obtain ⟨_, rfl⟩ := h
    exact ⟨rfl, fun _ _ h => by simp at h⟩
  | (j0, cs) :: qs, i, kn, l, h => by
    simp only [elemsOf] at h
    split at h
    · rename_i ds hj hds
      have hj := of_decide_eq_true hj
      subst hj
      split at h
      · rename_i k1 x1 k2 l' h1 h2
        simp only [Option.some.injEq, Prod.mk.injEq] at h
        obtain ⟨_, rfl⟩ := h
        obtain ⟨h3, h4⟩ := elemsOf_is h2
        refine ⟨by simp [h3], fun j q hq => ?_⟩
        cases j with
        | zero =>
          simp only [List.getElem?_cons_zero, Option.some.injEq] at hq; subst hq
          exact ⟨rfl, ds, x1, k1, hds, h1, rfl⟩
        | succ j =>
          obtain ⟨h5, ds', x', k', h6, h7, h8⟩ := h4 j q (by simpa using hq)
          exact ⟨by omega, ds', x', k', h6, h7, by simpa using h8⟩
      · cases h
    · cases h
theorem zipIdx_parts : ∀ (ps : List (Nat × Value)) (i : Nat), (∀ (j : Nat) p, ps[j]? = some p → p.1 = i + j) → ps = ((ps.map (·.2)).zipIdx i).map fun x => (x.2, x.1)
  | [], _, _ => rfl
  | p :: ps, i, h => by
    have h0 := h 0 p rfl
    simp only [List.map_cons, List.zipIdx_cons]
    rw [← zipIdx_parts ps (i + 1) (fun j q hj => by have := h (j + 1) q (by simpa using hj); omega)]
    obtain ⟨a, b⟩ := p
    simp at h0
    simp [h0]
theorem opSliceLit_sound (r : Rep w0 fr0 ρ fr tm own a w) (hlk : ∀ k ob, lk k = some ob → own.look k = some ob) (hkey : (∃ ob, (key, ob) ∈ ws) → own.look key = none) {t : TypeId} {len : Nat} {parts : Array (Nat × Operand)} (ho : o.op = .buildSlice t len parts)
    (h : (opSliceLit P lk key (opd tm) t len parts).val = some (x, ws)) (hK : Fin w0 fr0 ρ fr own a w o K (own.puts ws) x) : o.wp P a w K Q := by
  unfold opSliceLit at h
  split at h
  · rename_i e ps ht hps
    split at h
    · rename_i ie ty hie hty
      split at h
      · rename_i kn l z hel hz
        split at h
        · rename_i hd
          simp only [Bool.and_eq_true, decide_eq_true_eq, List.all_eq_true] at hd
          obtain ⟨⟨⟨⟨hlen, hsz⟩, hzs⟩, hsmall⟩, hall⟩ := hd
          obtain ⟨rfl, rfl⟩ := ret_pair h
          have hk0 := hkey ⟨_, List.mem_append_right _ (List.mem_singleton.2 rfl)⟩
          obtain ⟨p1, p2⟩ := partsOf_is r hps
          obtain ⟨e1, e2⟩ := elemsOf_is hel
          have hks : ∀ k ∈ parts.toList.flatMap (fun q => (opd tm q.2).keys), has own k = true := fun k hk => by
            obtain ⟨q, _, hq⟩ := List.mem_flatMap.1 hk
            exact opd_ok r.okT q.2 k hq
          obtain ⟨fr2, r2, g2, ht2, hk2, hb2⟩ := freezeL_ok (parts.toList.flatMap fun q => (opd tm q.2).keys) r.toRepM (told_of hlk)
          have hkk : (own.puts (freezeL lk (parts.toList.flatMap fun q => (opd tm q.2).keys))).look key = none := by
            rw [hk2 key fun hm => by
              obtain ⟨ob, hob⟩ := has_look.1 (hks key hm)
              rw [hk0] at hob; cases hob]
            exact hk0
          generalize hvs : (parts.toList.map fun q => a.eval q.2) = vs
          have hparts : (parts.map fun (i, y) => (i, a.eval y)).toList = (vs.zipIdx 0).map fun x => (x.2, x.1) := by
            rw [← hvs, Array.toList_map]
            have := zipIdx_parts (parts.toList.map fun (q : Nat × Operand) => (q.1, a.eval q.2)) 0 (fun j p hj => by
              simp only [List.getElem?_map, Option.map_eq_some_iff] at hj
              obtain ⟨q, hq, rfl⟩ := hj
              have hlt : j < ps.length := by rw [p1]; exact (List.getElem?_eq_some_iff.1 hq).1
              have hp := List.getElem?_eq_getElem hlt
              obtain ⟨p, h5, h6, _⟩ := p2 j _ hp
              rw [hq] at h5; cases h5
              obtain ⟨h7, _⟩ := e2 j _ hp
              simp only
              rw [h6]; exact h7)
            rw [List.map_map] at this
            exact this
          have hvl : vs.length = len := by rw [← hvs, List.length_map, ← p1, ← e1, hlen]
          have hvsz : ∀ v ∈ vs, v.cells.size = ie.size := fun v hv => by
            rw [← hvs] at hv
            obtain ⟨q, hq, rfl⟩ := List.mem_map.1 hv
            obtain ⟨j, hj⟩ := List.mem_iff_getElem?.1 hq
            have hlt : j < ps.length := by rw [p1]; exact (List.getElem?_eq_some_iff.1 hj).1
            obtain ⟨p, h5, _, h7, _⟩ := p2 j _ (List.getElem?_eq_getElem hlt)
            rw [hj] at h5; cases h5
            obtain ⟨h8, _⟩ := csIs_get h7
            have h9 := hall ps[j] (List.getElem_mem hlt)
            rw [← Array.length_toList, h8, h9, hsz]
          have hpos : 0 < ie.size := by rw [hsz]; exact ty.size_pos
          -- the new block
          have hrun : ∃ cells : Array Value, (Instr.buildSlice t len (parts.map fun (i, y) => (i, a.eval y))).run P w = .ok (.slice (some ⟨w.heap.size, 0, none⟩) len len) (w.alloc (.cells cells e)) ∧ cells = (vs.flatMap fun v => v.cells.toList).toArray := by
            by_cases h0 : len * ie.size = 0
            · have hl0 : len = 0 := by
                rcases Nat.mul_eq_zero.1 h0 with h | h
                · exact h
                · omega
              subst hl0
              have hv0 : vs = [] := List.length_eq_zero_iff.1 hvl
              subst hv0
              refine ⟨#[], ?_, rfl⟩
              have hp0 : (parts.map fun (i, y) => (i, a.eval y)).toList = [] := by rw [hparts]; rfl
              simp only [Instr.buildSlice, Sem.run_bind, run_und ht, Result.andThen_ok, run_size hie]
              rw [if_neg (by simp)]
              rw [hp0]
              simp [Instr.fill, newRow]
              congr 2
              simp [Array.range_zero']
            · refine ⟨_, run_buildSlice w t e len _ _ ie z ht hie hz (by omega) h0 ?_, rfl⟩
              rw [hparts]
              exact Go.Great.fill_whole hpos vs _ hvsz (by simp [hvl])
          obtain ⟨cells, hrun, hcells⟩ := hrun
          have hat : (w.alloc (.cells cells e)).heap[w.heap.size]? = some (.cells cells e (0, 0)) := by show (w.heap.push _)[w.heap.size]? = _; simp
          have hflen : (vs.flatMap fun v => v.cells.toList).length = len * ie.size := by
            rw [← hvl]
            clear hvl hparts hvs hrun hcells
            induction vs with
            | nil => simp
            | cons v vs ih =>
              rw [List.flatMap_cons, List.length_append, ih (fun u hu => hvsz u (List.mem_cons_of_mem _ hu)), List.length_cons, Nat.add_mul, Nat.one_mul, Array.length_toList, hvsz v List.mem_cons_self, Nat.add_comm]
          have hmax : len ≤ maxLen := by
            have : len ≤ len * ie.size := Nat.le_mul_of_pos_right _ hpos
            simp only [maxLen]; omega
          obtain ⟨r3, g3⟩ := r2.newRow (w' := w.alloc (.cells cells e)) hkk (mu := true) (kl := true) (kn := kn) (e := e) (t := ty) (l := l) (cur := cells) (C := len) rfl ((Ext.refl w).alloc _) hat (by rw [hcells, List.size_toArray, hflen, hsz]) (by omega) hmax
            (fun i x hi => by
              have hlt : i < ps.length := by rw [← e1]; exact (List.getElem?_eq_some_iff.1 hi).1
              have hp := List.getElem?_eq_getElem hlt
              obtain ⟨p, h5, h6, h7, h8, h9⟩ := p2 i _ hp
              obtain ⟨_, ds, x', k', h10, h11, h12⟩ := e2 i _ hp
              rw [hi] at h12; cases h12
              obtain ⟨l1, _⟩ := lendL_is (own' := []) (ρ' := fun _ => none) r.toRepM hlk g2.frz h10 (fun k hk => hb2 k (List.mem_flatMap.2 ⟨p, List.mem_of_getElem? h5, by rw [← h9]; exact hk⟩)) h7
              have hIs := Ty.take1_is h11 l1
              have hx : Ext w (w.alloc (.cells cells e)) := (Ext.refl w).alloc _
              refine ⟨_, hIs.mono (fun _ h => h) (fun c hc o => by rw [(bcell hx).1 _ _ (r2.frlt c hc)]), fun j u hj => ?_⟩
              have hju : j < ie.size := by
                have := (List.getElem?_eq_some_iff.1 hj).1
                rw [hIs.length] at this; omega
              simp only [World.cell?]
              rw [hat]
              simp only [Option.isSome_none, Bool.false_eq_true, if_false, Nat.zero_add]
              rw [hcells, List.getElem?_toArray, Go.Great.flat_get hpos vs hvsz, ← hsz]
              rw [show (i * ie.size + j) / ie.size = i by rw [Nat.mul_comm, Nat.mul_add_div hpos, Nat.div_eq_of_lt hju, Nat.add_zero], show (i * ie.size + j) % ie.size = j by rw [Nat.mul_comm, Nat.mul_add_mod, Nat.mod_eq_of_lt hju]]
              have : vs[i]? = some (a.eval p.2) := by rw [← hvs, List.getElem?_map, h5]; rfl
              rw [this]
              simpa using hj)
          refine wp_value (u := .slice (some ⟨w.heap.size, 0, none⟩) len len) (by simp only [execOp, ho, Sem.run_bind, hrun, Result.andThen_ok]; rfl) (hK (rho ρ key (some w.heap.size)) fr2 _ _ ?_ ?_ ?_)
          · rw [Own.puts_append]; exact r3
          · rw [Own.puts_append]; exact g2.trans g3
          · show SIs _ _ _ key 0 none _
            unfold SIs
            rw [Own.puts_append]
            simp only [Own.puts, Own.look_set, if_true, cutLen]
            refine ⟨by omega, .inr ⟨w.heap.size, len, _, len, by simp [rho], ⟨cells, hat, by rw [hcells, List.size_toArray, hflen, hsz]⟩, by rw [hlen], by omega, hmax, hmax, fun _ => ⟨by simp, by omega⟩⟩⟩
        · cases h
      · cases h
    · cases h
  · cases h
theorem opMake_sound (r : Rep w0 fr0 ρ fr tm own a w) (hkey : (∃ ob, (key, ob) ∈ ws) → own.look key = none) {t : TypeId} {y y' : Operand} (ho : o.op = .makeSlice t y y')
    (h : (opMake P key t (opd tm y) (opd tm y')).val = some (x, ws)) (hK : Fin w0 fr0 ρ fr own a w o K (own.puts ws) x) : o.wp P a w K Q := by
  have hy := r.eval y
  have hy' := r.eval y'
  unfold opMake at h
  split at h
  · rename_i k1 kd1 n k2 kd2 c e he1 he2 ht
    rw [he1] at hy; rw [he2] at hy'
    have hy : a.eval y = .int kd1 n := hy
    have hy' : a.eval y' = .int kd2 c := hy'
    split at h
    · rename_i ie ty hie hty
      split at h
      · rename_i z hz
        split at h
        · rename_i kx x0 hx0 hd
          simp only [Bool.and_eq_true, decide_eq_true_eq] at hd
          obtain ⟨hc, h'⟩ := Tr.ite_bad h
          clear h
          simp only [Bool.and_eq_true, decide_eq_true_eq] at hc
          obtain ⟨⟨⟨h0, hnc⟩, hb⟩, h63⟩ := hc
          obtain ⟨rfl, rfl⟩ := ret_pair h'
          have hk0 := hkey ⟨_, List.mem_singleton.2 rfl⟩
          have hrun := run_make (P := P) w t e ie z ht hie hz kd1 kd2 n c h0 hnc hb h63
          have hat : (w.alloc (.cells (madeCells z.cells (c.toNat * ie.size)) e)).heap[w.heap.size]? = some (.cells (madeCells z.cells (c.toNat * ie.size)) e (0, 0)) := by show (w.heap.push _)[w.heap.size]? = _; simp
          have hmax : c.toNat ≤ maxLen := by simp only [maxLen]; omega
          have hpos := ty.size_pos
          obtain ⟨r3, g3⟩ := r.toRepM.newRow (w' := w.alloc (.cells (madeCells z.cells (c.toNat * ie.size)) e)) hk0 (mu := true) (kl := k1) (kn := k1) (e := e) (t := ty) (l := List.replicate n.toNat x0) (C := c.toNat) rfl ((Ext.refl w).alloc _) hat (by rw [size_madeCells, hd.1]) (by simp; omega) hmax
            (fun i x hi => by
              have hlt : i < n.toNat := by
                have := (List.getElem?_eq_some_iff.1 hi).1
                simpa using this
              have : x0 = x := by simpa [hlt] using hi
              subst this
              have hIs : ty.Is w fr x0 z.cells.toList := Ty.take1_is (own := []) (ρ := fun _ => none) hx0 (ofVs_is true _)
              have hx : Ext w (w.alloc (.cells (madeCells z.cells (c.toNat * ie.size)) e)) := (Ext.refl w).alloc _
              refine ⟨_, hIs.mono (fun _ h => h) (fun c' hc' o => by rw [(bcell hx).1 _ _ (r.frlt c' hc')]), fun j u hj => ?_⟩
              have hju : j < ty.size := by
                have := (List.getElem?_eq_some_iff.1 hj).1
                rw [hIs.length] at this; exact this
              simp only [World.cell?]
              rw [hat]
              simp only [Option.isSome_none, Bool.false_eq_true, if_false, Nat.zero_add]
              have hin : i * ty.size + j < c.toNat * ie.size := by
                rw [hd.1]
                have : (i + 1) * ty.size ≤ c.toNat * ty.size := Nat.mul_le_mul_right _ (by omega)
                rw [Nat.add_mul] at this
                omega
              have hmod : (i * ty.size + j) % z.cells.size = j := by rw [hd.2, Nat.mul_comm, Nat.mul_add_mod, Nat.mod_eq_of_lt hju]
              simp only [madeCells, Array.getElem?_map, Array.getElem?_range, hin, if_true, Option.map_some, hmod]
              have hj' : z.cells[j]? = some u := by simpa using hj
              have hlt2 := (Array.getElem?_eq_some_iff.1 hj').1
              rw [getElem!_pos z.cells j hlt2, ← hj', Array.getElem?_eq_getElem hlt2])
          refine wp_value (by simp only [execOp, ho, hy, hy', Sem.run_bind, hrun, Result.andThen_ok]; rfl) (hK (rho ρ key (some w.heap.size)) fr _ _ r3 g3 ?_)
          show SIs _ _ _ key 0 none _
          unfold SIs
          simp only [Own.puts, Own.look_set, if_true, cutLen, List.length_replicate]
          exact ⟨by omega, .inr ⟨w.heap.size, c.toNat, _, c.toNat, by simp [rho], ⟨_, hat, by rw [size_madeCells, hd.1]⟩, rfl, by omega, hmax, hmax, fun _ => ⟨by simp, by omega⟩⟩⟩
        · cases h
      · cases h
    · cases h
  · cases h
end
end Go.Proofs.Ytacgchandefjgaa
