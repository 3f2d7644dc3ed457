/-
  The evaluator is right: single operations. No program is named here.
-/
import Derived.Test.YtacgchandefjgaaFvG
import Derived.Great.BuildSlice
namespace Go.Proofs.Ytacgchandefjgaa
open Go
section
variable {P : Program} {call : CallT} {w0 : World} {fr0 : Nat → Prop} {ρ : Nat → Option Nat} {fr : Nat → Prop} {tm : List AV} {own : Own} {a : Act} {w : World} {o : Oper} {K : Act → World → Prop} {Q : Exit → Act → World → Prop}
  {lk : Nat → Option OB} {key : Nat} {x : AV} {ws : List (Nat × OB)}
/-- What is to be done behind an operation. -/
def Fin (w0 : World) (fr0 : Nat → Prop) (ρ : Nat → Option Nat) (fr : Nat → Prop) (own : Own) (a : Act) (w : World) (o : Oper) (K : Act → World → Prop) (own' : Own) (x : AV) : Prop :=
  ∀ ρ' fr' u w', RepM w0 fr0 ρ' fr' own' w' → Grow own ρ fr w own' ρ' fr' w' → x.is own' ρ' fr' w' u → K (a.put o.dst u) w'
theorem wp_value {u : Value} {w' : World} (h : (execOp a.eval o).run P w = .ok (.value u) w') (hK : K (a.put o.dst u) w') : o.wp P a w K Q := by
  unfold Oper.wp; rw [h]; exact hK
theorem wp_skip' {w' : World} (h : (execOp a.eval o).run P w = .ok .skip w') (hK : K (a.put o.dst undef) w') : o.wp P a w K Q := by
  unfold Oper.wp; rw [h]; exact hK
theorem wp_pure (r : Rep w0 fr0 ρ fr tm own a w) {u : Value} (h : (execOp a.eval o).run P w = .ok (.value u) w) (hx : x.is own ρ fr w u) (hK : Fin w0 fr0 ρ fr own a w o K own x) : o.wp P a w K Q :=
  wp_value h (hK ρ fr u w r.toRepM (Grow.refl _ _ _ _) hx)
theorem wp_pureK (r : Rep w0 fr0 ρ fr tm own a w) (hK : Fin w0 fr0 ρ fr own a w o K own x) {u : Value} (h : (execOp a.eval o).run P w = .ok (.value u) w) (hx : x.is own ρ fr w u) : o.wp P a w K Q := wp_pure r h hx hK
theorem ret_some {α : Type} {x y : α} (h : (Tr.ret x).val = some y) : x = y := by simpa [Tr.val] using h
theorem generic_sound (hsel : ∀ cs b, o.op ≠ .select cs b) (r : Rep w0 fr0 ρ fr tm own a w) (h : (generic P o (opd tm)).val = some (x, ws)) (hK : Fin w0 fr0 ρ fr own a w o K (own.puts ws) x) : o.wp P a w K Q := by
  unfold generic at h
  split at h
  · cases h
  · rename_i hall
    have e : execOp a.eval o = execOp (fun x => rawOr (opd tm x)) o := execOp_congr o hsel fun y hy => by
      rw [List.all_eq_true] at hall
      exact rawOr_is (hall _ (List.mem_map.2 ⟨y, by simpa using hy, rfl⟩)) (r.eval y)
    split at h
    · rename_i y hy
      have := ret_some h
      simp only [Prod.mk.injEq] at this
      obtain ⟨rfl, rfl⟩ := this
      exact wp_pure r (by rw [e]; exact pureRun_run hy w) (ofVal_is _ y) hK
    · cases h
theorem pickAt_some {α : Type} {kn : Bool} {i : Int} {f : Nat → Tr α} {z : α} : ∀ {m j : Nat}, (pickAt kn i f j m).val = some z → ∃ n : Nat, i = (n : Int) ∧ j ≤ n ∧ n < j + m ∧ (f n).val = some z
  | 0, _, h => by cases h
  | m + 1, j, h => by
    simp only [pickAt] at h
    rcases Tr.val_ite_some h with ⟨hb, h⟩ | ⟨_, h⟩
    · exact ⟨j, by simpa using hb, Nat.le_refl _, by omega, h⟩
    · obtain ⟨n, h1, h2, h3, h4⟩ := pickAt_some h
      exact ⟨n, h1, by omega, by omega, h4⟩
/-- Cells that lie in memory, as a list. -/
theorem cells_at {b : Nat} : ∀ {cs : List CV} {base : Nat}, (∀ (j : Nat) c, cs[j]? = some c → ∃ u, w.cell? ⟨b, base + j, none⟩ = some u ∧ c.is own ρ fr w u) → ∃ us, csIs own ρ fr w cs us ∧ ∀ (j : Nat) u, us[j]? = some u → w.cell? ⟨b, base + j, none⟩ = some u
  | [], _, _ => ⟨[], rfl, fun _ _ h => by simp at h⟩
  | c :: cs, base, h => by
    obtain ⟨u, h1, h2⟩ := h 0 c rfl
    obtain ⟨us, h3, h4⟩ := cells_at (cs := cs) (base := base + 1) fun j c hj => by
      have := h (j + 1) c (by simpa using hj)
      rwa [show base + (j + 1) = base + 1 + j by omega] at this
    refine ⟨u :: us, ⟨u, us, rfl, h2, h3⟩, fun j v hj => ?_⟩
    cases j with
    | zero => simp at hj; subst hj; exact h1
    | succ j => have := h4 j v (by simpa using hj); rwa [show base + 1 + j = base + (j + 1) by omega] at this
theorem loadCs_run {t : TypeId} {ag : Bool} {n off b base : Nat} {cs : List CV} (ht : aggSize P t = some (ag, n)) (h : (loadCs ag n off cs).val = some (x, ws)) (hc : ∀ (j : Nat) c, cs[j]? = some c → ∃ u, w.cell? ⟨b, base + j, none⟩ = some u ∧ c.is own ρ fr w u) :
    ws = [] ∧ ∃ u, (loadVar t ⟨b, base + off, none⟩).run P w = .ok u w ∧ x.is own ρ fr w u := by
  unfold loadCs at h
  split at h
  · split at h
    · rename_i hl
      have hl := of_decide_eq_true hl
      have := ret_some h
      simp only [Prod.mk.injEq] at this
      obtain ⟨rfl, rfl⟩ := this
      obtain ⟨us, h1, h2⟩ := cells_at (cs := (cs.drop off).take n) (base := base + off) (b := b) (w := w) (own := own) (ρ := ρ) (fr := fr) fun j c hj => by
        rw [List.getElem?_take] at hj
        split at hj
        · rw [List.getElem?_drop] at hj
          have := hc _ c hj
          rwa [← Nat.add_assoc] at this
        · cases hj
      obtain ⟨h3, _⟩ := csIs_get h1
      refine ⟨rfl, .agg us.toArray, ?_, us, rfl, h1⟩
      have := run_loadCells_list (P := P) w ⟨b, base + off, none⟩ us fun j v hj => by rw [add_plain']; exact h2 j v hj
      rw [h3, hl] at this
      simp [loadVar, (aggSize_true ht).1, (aggSize_true ht).2, this]
    · cases h
  · split at h
    · rename_i c hcc
      have := ret_some h
      simp only [Prod.mk.injEq] at this
      obtain ⟨rfl, rfl⟩ := this
      obtain ⟨u, h1, h2⟩ := hc off c hcc
      exact ⟨rfl, u, by simp [loadVar, aggSize_false ht, h1], h2⟩
    · cases h
theorem opLoad_sound (r : Rep w0 fr0 ρ fr tm own a w) (hlk : ∀ k ob, lk k = some ob → own.look k = some ob) {t : TypeId} {y : Operand} (ho : o.op = .load t y) (h : (opLoad P lk t (opd tm y)).val = some (x, ws)) (hK : Fin w0 fr0 ρ fr own a w o K (own.puts ws) x) : o.wp P a w K Q := by
  have hy := r.eval y
  have fin : ∀ {b off base : Nat} {ag : Bool} {n : Nat} {cs : List CV}, aggSize P t = some (ag, n) → a.eval y = .pointer (some ⟨b, base + off, none⟩) → (loadCs ag n off cs).val = some (x, ws) →
      (∀ (j : Nat) c, cs[j]? = some c → ∃ u, w.cell? ⟨b, base + j, none⟩ = some u ∧ c.is own ρ fr w u) → o.wp P a w K Q := fun ht he hl hc => by
    obtain ⟨rfl, u, h1, h2⟩ := loadCs_run ht hl hc
    exact wp_pure r (by simp [execOp, ho, he, Instr.loadAt, Instr.sureAddr, h1]) h2 hK
  unfold opLoad at h
  split at h
  · cases h
  · rename_i ag n ht
    split at h
    · rename_i k off he
      rw [he] at hy
      obtain ⟨b, hb, hu⟩ := hy
      split at h
      · rename_i cs hk
        obtain ⟨b', h1, h2, h3, h4, h5, h6⟩ := r.cells k cs (hlk k _ hk)
        rw [hb] at h1; cases h1
        exact fin (base := 0) ht (by rw [hu, Nat.zero_add]) h (fun j c hj => by rw [Nat.zero_add]; exact h6 j c hj)
      · cases h
    · rename_i kn ty z off he
      rw [he] at hy
      obtain ⟨b, base, hu, hb, us, h1, h2⟩ := hy
      obtain ⟨h3, h4⟩ := csIs_get (Ty.cells_is (own := own) (ρ := ρ) (kn := kn) h1)
      exact fin ht hu h fun j c hj => by
        obtain ⟨u, h5, h6⟩ := h4 j c hj
        exact ⟨u, h2 j u h5, h6⟩
    · rename_i kn k i m off he
      rw [he] at hy
      obtain ⟨b, hb, hu⟩ := hy
      split at h
      · rename_i mu kl kn' e ty l hk
        split at h
        · rename_i hm
          have hm := of_decide_eq_true hm
          subst hm
          obtain ⟨hi, h⟩ := Tr.ite_bad h
          have hi := of_decide_eq_true hi
          rcases r.rows k mu kl kn' e ty l (hlk k _ hk) with ⟨h1, _⟩ | ⟨b', C, h1, h2, h3, h4, h5, h6, _⟩
          · rw [hb] at h1; cases h1
          · rw [hb] at h1; cases h1
            have hg : l[i]? = some (l.getD i ty.dflt) := by rw [List.getD_eq_getElem?_getD, List.getElem?_eq_getElem hi]; rfl
            obtain ⟨us, h7, h8⟩ := h6 i _ hg
            obtain ⟨h9, h10⟩ := csIs_get (Ty.cells_is (own := own) (ρ := ρ) (kn := kn && kn') h7)
            exact fin (base := i * ty.size) ht hu h fun j c hj => by
              obtain ⟨u, h11, h12⟩ := h10 j c hj
              have := h8 j u h11
              rw [Nat.zero_add] at this
              exact ⟨u, this, h12⟩
        · cases h
      · cases h
    · cases h
theorem splice_get {α : Type} (cs : List α) (off : Nat) (vs : List α) (hl : off + vs.length ≤ cs.length) (j : Nat) : (splice cs off vs)[j]? = if off ≤ j ∧ j < off + vs.length then vs[j - off]? else cs[j]? := by
  unfold splice
  rw [List.append_assoc]
  by_cases h1 : j < off
  · rw [List.getElem?_append_left (by simp; omega), List.getElem?_take, if_pos h1, if_neg (by omega)]
  · rw [List.getElem?_append_right (by simp; omega)]
    have e : (List.take off cs).length = off := by simp; omega
    rw [e]
    by_cases h2 : j < off + vs.length
    · rw [List.getElem?_append_left (by omega), if_pos (by omega)]
    · rw [List.getElem?_append_right (by omega), List.getElem?_drop, if_neg (by omega)]
      congr 1
      omega
theorem splice_len {α : Type} (cs : List α) (off : Nat) (vs : List α) (hl : off + vs.length ≤ cs.length) : (splice cs off vs).length = cs.length := by simp [splice]; omega
theorem mem_splice {α : Type} {cs vs : List α} {off : Nat} {y : α} (h : y ∈ splice cs off vs) : y ∈ cs ∨ y ∈ vs := by
  simp only [splice, List.mem_append] at h
  rcases h with (h | h) | h
  · exact .inl (List.mem_of_mem_take h)
  · exact .inr h
  · exact .inl (List.mem_of_mem_drop h)
theorem csIs_splice {cs vs : List CV} {us zs : List Value} {off : Nat} (h : csIs own ρ fr w cs us) (hv : csIs own ρ fr w vs zs) (hl : off + vs.length ≤ cs.length) : csIs own ρ fr w (splice cs off vs) (splice us off zs) := by
  obtain ⟨h1, h2⟩ := csIs_get h
  obtain ⟨h3, h4⟩ := csIs_get hv
  refine csIs_mk (by rw [splice_len _ _ _ hl, splice_len _ _ _ (by omega), h1]) fun j c u hj hu => ?_
  rw [splice_get _ _ _ hl] at hj
  rw [splice_get _ _ _ (by omega), h3] at hu
  by_cases hr : off ≤ j ∧ j < off + vs.length
  · rw [if_pos hr] at hj hu
    obtain ⟨u', h5, h6⟩ := h4 _ c hj
    rw [h5] at hu; cases hu; exact h6
  · rw [if_neg hr] at hj hu
    obtain ⟨u', h5, h6⟩ := h2 _ c hj
    rw [h5] at hu; cases hu; exact h6
/-- Cells that are stored, and those beside them. -/
theorem stored_get {b off : Nat} {us zs : List Value} {base : Nat} (h : ∀ (j : Nat) u, us[j]? = some u → w.cell? ⟨b, base + j, none⟩ = some u) (hl : off + zs.length ≤ us.length) :
    ∀ (j : Nat) u, (splice us off zs)[j]? = some u → (w.setCells b (base + off) zs).cell? ⟨b, base + j, none⟩ = some u := fun j u hj => by
  rw [splice_get _ _ _ hl] at hj
  by_cases hr : off ≤ j ∧ j < off + zs.length
  · rw [if_pos hr] at hj
    have := World.cell?_setCells_in b zs (base + off) w (fun i hi => by
      have := h (off + i) us[off + i] (List.getElem?_eq_getElem (by omega))
      rw [← Nat.add_assoc] at this
      rw [this]; rfl) (j - off) (by omega)
    rw [show base + off + (j - off) = base + j by omega] at this
    rw [this, ← List.getElem?_eq_getElem]; exact hj
  · rw [if_neg hr] at hj
    rw [World.cell?_setCells_out b zs (base + off) w _ (fun _ => by simp only; omega)]
    exact h j u hj
theorem storeVar_run {t : TypeId} {i : TypeInfo} {b off : Nat} {u : Value} (hi : P.info? t = some i) (hs : i.size = u.cells.toList.length) (hc : ∀ j, j < u.cells.toList.length → (w.cell? ⟨b, off + j, none⟩).isSome = true) (hf : ∀ o, w.frozen? ⟨b, o, none⟩ = false)
    (h1 : ∀ v ∈ u.cells.toList, v.oneCell' = true) : (storeVar t ⟨b, off, none⟩ u).run P w = .ok () (w.setCells b off u.cells.toList) := by
  have := run_storeCells_cells (P := P) b off u.cells.toList 0 w (by simpa using hc) (fun j _ => hf _) h1
  have hs' : u.cells.size = i.size := by rw [← Array.length_toList, hs]
  simp [storeVar, run_size hi, hs', this]
theorem opStore_sound (r : Rep w0 fr0 ρ fr tm own a w) (hlk : ∀ k ob, lk k = some ob → own.look k = some ob) {t : TypeId} {y z : Operand} (ho : o.op = .store t y z) (h : (opStore P lk t (opd tm y) (opd tm z)).val = some (x, ws)) (hK : Fin w0 fr0 ρ fr own a w o K (own.puts ws) x) : o.wp P a w K Q := by
  have hy := r.eval y
  have hz := r.eval z
  have hzo := opd_ok r.okT z
  unfold opStore at h
  split at h
  · rename_i inf xs hi hxs
    obtain ⟨c1, c2, c3⟩ := asCells_is hxs hz
    obtain ⟨c4, _⟩ := csIs_get c1
    split at h
    · rename_i k off he
      rw [he] at hy
      obtain ⟨b, hb, hu⟩ := hy
      split at h
      · rename_i cs hk
        have hk := hlk k _ hk
        split at h
        · rename_i hd
          simp only [Bool.and_eq_true, decide_eq_true_eq] at hd
          have := ret_some h
          simp only [Prod.mk.injEq] at this
          obtain ⟨rfl, rfl⟩ := this
          obtain ⟨b', h1, h2, h3, h4, h5, h6⟩ := r.cells k cs hk
          rw [hb] at h1; cases h1
          obtain ⟨us, h7, h8⟩ := cells_at (cs := cs) (base := 0) (b := b) (fun j c hj => by rw [Nat.zero_add]; exact h6 j c hj)
          obtain ⟨h9, _⟩ := csIs_get h7
          have hst := storeVar_run (P := P) (off := off) hi (by rw [hd.1, c4]) (fun j hj => by
            rw [c4] at hj
            have := h8 (off + j) us[off + j] (List.getElem?_eq_getElem (by omega))
            rw [Nat.zero_add] at this
            rw [this]; rfl) h5 c2
          have hok : okKeys own (cs.flatMap CV.keys) := r.okC k cs hk
          obtain ⟨r2, g2⟩ := r.toRepM.stored hk trivial hb h4 off (a.eval z).cells.toList (ob' := .cells (splice cs off xs)) (.inr (.inl ⟨_, _, rfl, rfl⟩)) trivial
            (fun cs' e => by
              cases e
              refine ⟨fun k' hk' => ?_, h5, fun j c hj => ?_⟩
              · obtain ⟨c, hc, hck⟩ := List.mem_flatMap.1 hk'
                rcases mem_splice hc with hc | hc
                · exact hok k' (List.mem_flatMap.2 ⟨c, hc, hck⟩)
                · exact hzo k' (by rw [← c3]; exact List.mem_flatMap.2 ⟨c, hc, hck⟩)
              · obtain ⟨_, h10⟩ := csIs_get (csIs_splice h7 c1 hd.2)
                obtain ⟨u, h11, h12⟩ := h10 j c hj
                have := stored_get (w := w) (b := b) (off := off) (zs := (a.eval z).cells.toList) (base := 0) h8 (by omega) j u h11
                rw [Nat.zero_add, Nat.zero_add] at this
                exact ⟨u, this, h12⟩)
            (fun _ _ _ _ _ _ e => by cases e)
          exact wp_skip' (w' := w.setCells b off (a.eval z).cells.toList) (by simp [execOp, ho, hu, Instr.storeAt, Instr.sureAddr, hst]) (hK ρ fr undef _ r2 g2 rfl)
        · cases h
      · cases h
    · rename_i kn k i m off he
      rw [he] at hy
      obtain ⟨b, hb, hu⟩ := hy
      split at h
      · rename_i kl kn' e ty l ys hk hys
        have hk0 := hk
        have hk := hlk k _ hk
        obtain ⟨hil, h'⟩ := Tr.ite_bad h
        clear h
        have hil := of_decide_eq_true hil
        split at h'
        · rename_i hd
          simp only [Bool.and_eq_true, decide_eq_true_eq, Bool.not_eq_true'] at hd
          obtain ⟨⟨⟨hd1, hd2⟩, hd3⟩, hd4⟩ := hd
          subst hd3
          split at h'
          · rename_i kk y' hy'
            have := ret_some h'
            simp only [Prod.mk.injEq] at this
            obtain ⟨rfl, rfl⟩ := this
            have hnk : k ∉ (opd tm z).keys := fun hm => by
              have : (opd tm z).keys.contains k = true := by simpa using hm
              rw [this] at hd4; cases hd4
            obtain ⟨fr2, r2, g2, ht2, hk2, hb2⟩ := freezeL_ok (opd tm z).keys r.toRepM (told_of hlk)
            have hkk := hk2 k hnk
            rw [hk] at hkk
            rcases r2.rows k true kl kn' e ty l hkk with ⟨h1, _⟩ | ⟨b', C, h1, h2, h3, h4, h5, h6, h7, _⟩
            · rw [hb] at h1; cases h1
            · rw [hb] at h1; cases h1
              obtain ⟨l1, _⟩ := lendL_is (own' := []) (ρ' := fun _ => none) r.toRepM hlk g2.frz hys (fun k' hk' => hb2 k' (by rw [← c3]; exact hk')) c1
              obtain ⟨l2, _⟩ := csIs_get l1
              have hg : l[i]? = some (l.getD i ty.dflt) := by rw [List.getD_eq_getElem?_getD, List.getElem?_eq_getElem hil]; rfl
              obtain ⟨us, h8, h9⟩ := h6 i _ hg
              have hul := h8.length
              have h9' : ∀ (j : Nat) u, us[j]? = some u → w.cell? ⟨b, i * ty.size + j, none⟩ = some u := fun j u hj => by have := h9 j u hj; rwa [Nat.zero_add] at this
              have hcl : (Ty.cells (kn && kn') ty (l.getD i ty.dflt)).length = ty.size := Ty.cells_length
              have hsp : ty.Is w fr2 y' (splice us off (a.eval z).cells.toList) := Ty.take1_is hy' (csIs_splice (own := []) (ρ := fun _ => none) (Ty.cells_is h8) l1 (by omega))
              have hst := storeVar_run (P := P) (t := t) (b := b) (off := i * ty.size + off) (u := a.eval z) hi (by rw [hd1, l2]) (fun j hj => by
                have := h9' (off + j) us[off + j] (List.getElem?_eq_getElem (by omega))
                rw [← Nat.add_assoc] at this
                rw [this]; rfl) (fun o => h3.fz o) c2
              obtain ⟨r3, g3⟩ := r2.stored hkk trivial hb (h7 rfl) (i * ty.size + off) (a.eval z).cells.toList (ob' := .row true kl (kn' && kn && kk) e ty (l.set i y')) (.inr (.inr ⟨_, _, _, _, _, _, _, _, _, _, rfl, rfl, by simp⟩)) trivial
                (fun _ e => by cases e)
                (fun mu2 kl2 kn2 e2 t2 l2' e' => by
                  cases e'
                  refine ⟨rfl, C, h3, by simpa using h4, h5, fun j z' hj => ?_⟩
                  rw [List.getElem?_set] at hj
                  by_cases hij : i = j
                  · subst hij
                    have hj' : y' = z' := by simpa [hil] using hj
                    subst hj'
                    refine ⟨_, hsp.mono (fun _ h => h) (fun c hc o => ?_), fun q v hq => ?_⟩
                    · rw [World.cell?_setCells_out b _ _ w _ (fun e _ => absurd (e ▸ hc) (h7 rfl))]
                    · have := stored_get (w := w) (b := b) (off := off) (zs := (a.eval z).cells.toList) (base := i * ty.size) h9' (by omega) q v hq
                      rwa [Nat.zero_add]
                  · rw [if_neg hij] at hj
                    obtain ⟨vs, h10, h11⟩ := h6 j z' hj
                    refine ⟨vs, h10.mono (fun _ h => h) (fun c hc o => ?_), fun q v hq => ?_⟩
                    · rw [World.cell?_setCells_out b _ _ w _ (fun e _ => absurd (e ▸ hc) (h7 rfl))]
                    · have hq' : q < ty.size := by
                        have := (List.getElem?_eq_some_iff.1 hq).1
                        rw [h10.length] at this; exact this
                      rw [World.cell?_setCells_out b _ _ w _ (fun _ => by
                        simp only
                        rcases Nat.lt_or_gt_of_ne hij with hlt | hlt
                        · have : (i + 1) * ty.size ≤ j * ty.size := Nat.mul_le_mul_right _ hlt
                          rw [Nat.add_mul] at this
                          omega
                        · have : (j + 1) * ty.size ≤ i * ty.size := Nat.mul_le_mul_right _ hlt
                          rw [Nat.add_mul] at this
                          omega)]
                      exact h11 q v hq)
              refine wp_skip' (w' := w.setCells b (i * ty.size + off) (a.eval z).cells.toList) (by simp [execOp, ho, hu, Instr.storeAt, Instr.sureAddr, hst]) (hK ρ fr2 undef _ ?_ ?_ rfl)
              · rw [Own.puts_append]; exact r3
              · rw [Own.puts_append]; exact g2.trans g3
          · cases h'
        · cases h'
      · cases h
    · cases h
  · cases h
end
end Go.Proofs.Ytacgchandefjgaa
