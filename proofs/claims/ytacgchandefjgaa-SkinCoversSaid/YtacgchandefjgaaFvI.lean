/-
  The evaluator is right: addresses, parts, literals. No program is named here.
-/
import Derived.Test.YtacgchandefjgaaFvH
namespace Go.Proofs.Ytacgchandefjgaa
open Go
section
variable {P : Program} {call : CallT} {w0 : World} {fr0 : Nat → Prop} {ρ : Nat → Option Nat} {fr : Nat → Prop} {tm : List AV} {own : Own} {a : Act} {w : World} {o : Oper} {K : Act → World → Prop} {Q : Exit → Act → World → Prop}
  {lk : Nat → Option OB} {key : Nat} {x : AV} {ws : List (Nat × OB)}
theorem ret_pair {x' : AV} {ws' : List (Nat × OB)} (h : (Tr.ret (x', ws')).val = some (x, ws)) : x' = x ∧ ws' = ws := by
  have := ret_some h
  simpa using this
theorem opField_sound (r : Rep w0 fr0 ρ fr tm own a w) {s : TypeId} {y : Operand} {f : Nat} (ho : o.op = .fieldAddr s y f) (h : (opField P s (opd tm y) f).val = some (x, ws)) (hK : Fin w0 fr0 ρ fr own a w o K (own.puts ws) x) : o.wp P a w K Q := by
  have hy := r.eval y
  unfold opField at h
  split at h
  · rename_i fs hs
    split at h
    · rename_i fd hfd
      split at h
      · rename_i m hm
        obtain ⟨i, hi, him⟩ := Option.map_eq_some_iff.1 hm
        have hz : ¬ (i.size = 0) := by omega
        have run : ∀ {b off : Nat}, a.eval y = .pointer (some ⟨b, off, none⟩) → (execOp a.eval o).run P w = .ok (.value (.pointer (some ⟨b, off + fd.offset, none⟩))) w := fun e => by
          simp [execOp, ho, e, Instr.fieldAt, run_und hs, hfd, Instr.sureAddr, fieldPlace, run_size hi, hz, add_plain']
        split at h
        · rename_i k off he
          rw [he] at hy
          obtain ⟨b, hb, hu⟩ := hy
          obtain ⟨rfl, rfl⟩ := ret_pair h
          exact wp_pureK r hK (run hu) ⟨b, hb, rfl⟩
        · rename_i kn t z off he
          rw [he] at hy
          obtain ⟨b, base, hu, hb, hz'⟩ := hy
          obtain ⟨rfl, rfl⟩ := ret_pair h
          exact wp_pureK r hK (run hu) ⟨b, base, by rw [Nat.add_assoc], hb, hz'⟩
        · rename_i kn k i' m' off he
          rw [he] at hy
          obtain ⟨b, hb, hu⟩ := hy
          obtain ⟨rfl, rfl⟩ := ret_pair h
          exact wp_pureK r hK (run hu) ⟨b, hb, by rw [Nat.add_assoc]⟩
        · cases h
      · cases h
    · cases h
  · cases h
theorem cutLen_pos {α : Type} {l : List α} {i j : Nat} {n : Option Nat} (h : j < cutLen l i n) : 0 < cutLen l i n := by omega
theorem opIndexAddr_sound (r : Rep w0 fr0 ρ fr tm own a w) (hlk : ∀ k ob, lk k = some ob → own.look k = some ob) {t : TypeId} {y ix : Operand} (ho : o.op = .indexAddr t y ix) (h : (opIndexAddr P lk t (opd tm y) (opd tm ix)).val = some (x, ws)) (hK : Fin w0 fr0 ρ fr own a w o K (own.puts ws) x) : o.wp P a w K Q := by
  have hy := r.eval y
  have hi := r.eval ix
  unfold opIndexAddr at h
  split at h
  · rename_i ki kd i hix
    rw [hix] at hi
    have hi : a.eval ix = .int kd i := hi
    split at h
    · rename_i n e ht
      split at h
      · rename_i inf hinf
        have run : ∀ {b off m : Nat}, a.eval y = .pointer (some ⟨b, off, none⟩) → i = (m : Int) → m < n → (execOp a.eval o).run P w = .ok (.value (.pointer (some ⟨b, off + m * inf.size, none⟩))) w := @fun b off m e he hm => by
          subst he
          have h0 : (0 : Int) ≤ (m : Int) ∧ (m : Int) < (n : Int) := by omega
          simp [execOp, ho, e, hi, Instr.indexAt, asIntOf, run_und ht, Instr.sureAddr, run_size hinf, add_plain', show m < n by omega]
        split at h
        · rename_i k off he
          rw [he] at hy
          obtain ⟨b, hb, hu⟩ := hy
          obtain ⟨m, hm, _, hm2, h⟩ := pickAt_some h
          obtain ⟨rfl, rfl⟩ := ret_pair h
          exact wp_pureK r hK (run hu hm (by omega)) ⟨b, hb, rfl⟩
        · rename_i kn ty z off he
          rw [he] at hy
          obtain ⟨b, base, hu, hb, hz'⟩ := hy
          obtain ⟨m, hm, _, hm2, h⟩ := pickAt_some h
          obtain ⟨rfl, rfl⟩ := ret_pair h
          exact wp_pureK r hK (run hu hm (by omega)) ⟨b, base, by rw [Nat.add_assoc], hb, hz'⟩
        · rename_i kn k r' m' off he
          rw [he] at hy
          obtain ⟨b, hb, hu⟩ := hy
          obtain ⟨m, hm, _, hm2, h⟩ := pickAt_some h
          obtain ⟨rfl, rfl⟩ := ret_pair h
          exact wp_pureK r hK (run hu hm (by omega)) ⟨b, hb, by rw [Nat.add_assoc]⟩
        · cases h
      · cases h
    · rename_i e ht
      split at h
      · rename_i m hm
        have run : ∀ {b off n c : Nat}, a.eval y = .slice (some ⟨b, off, none⟩) n c → 0 ≤ i → i < (n : Int) → (execOp a.eval o).run P w = .ok (.value (.pointer (some ⟨b, off + i.toNat * m, none⟩))) w := fun e h0 h1 => by
          simp [execOp, ho, e, hi, Instr.indexAt, asIntOf, run_und ht, run_size' hm, add_plain', h0, h1]
        split at h
        · rename_i kl kn ty l he
          split at h
          · rename_i hms
            have hms := of_decide_eq_true hms
            subst hms
            obtain ⟨hd, h'⟩ := Tr.ite_bad h
            clear h
            simp only [Bool.and_eq_true, decide_eq_true_eq] at hd
            obtain ⟨rfl, rfl⟩ := ret_pair h'
            rw [he] at hy
            obtain ⟨ad, c, hu, h1, h2, h3⟩ := hy
            have hlt : i.toNat < l.length := by omega
            obtain ⟨b, o', rfl, hb, hrow⟩ := h3 (fun e => by rw [e] at hlt; simp at hlt)
            simp only [List.cons.injEq, and_true] at hu
            have hg : l[i.toNat]? = some (l.getD i.toNat ty.dflt) := by rw [List.getD_eq_getElem?_getD, List.getElem?_eq_getElem hlt]; rfl
            obtain ⟨us, h4, h5⟩ := hrow _ _ hg
            exact wp_pureK r hK (run hu hd.1 hd.2) ⟨b, o' + i.toNat * ty.size, rfl, hb, us, h4, h5⟩
          · cases h
        · rename_i kn k r' n he
          split at h
          · rename_i mu kl kn' e' ty l hk
            split at h
            · rename_i hms
              have hms := of_decide_eq_true hms
              subst hms
              obtain ⟨hd, h'⟩ := Tr.ite_bad h
              clear h
              simp only [Bool.and_eq_true, decide_eq_true_eq] at hd
              obtain ⟨rfl, rfl⟩ := ret_pair h'
              rw [he] at hy
              obtain ⟨h0, hl, ad, c, hu, h1, h2, h3⟩ := sis_row r.toRepM (hlk _ _ hk) hy
              rcases h3 with ⟨_, _, hz⟩ | ⟨b, C, hb, _, _, _, _, h4⟩
              · omega
              · obtain ⟨rfl, _⟩ := h4 (.inr (by omega))
                refine wp_pureK r hK (run hu hd.1 hd.2) ⟨b, hb, ?_⟩
                cases r' with
                | zero => simp
                | succ r' => simp [Nat.add_mul]
            · cases h
          · rename_i cs hk
            split at h
            · rename_i c
              rw [he] at hy
              have hy : SIs own ρ w k r' (some c) (a.eval y) := hy
              unfold SIs at hy
              rw [hlk _ _ hk] at hy
              obtain ⟨b, cp, hb, hu, _, _⟩ := hy.2 c rfl
              obtain ⟨j, hj, _, hj2, h⟩ := pickAt_some h
              obtain ⟨rfl, rfl⟩ := ret_pair h
              refine wp_pureK r hK (run hu (by omega) (by omega)) ⟨b, hb, ?_⟩
              rw [hj, Int.toNat_natCast]
            · cases h
          · cases h
        · cases h
      · cases h
    · cases h
  · cases h
theorem opIndex_sound (r : Rep w0 fr0 ρ fr tm own a w) {t : TypeId} {y ix : Operand} (ho : o.op = .index t y ix) (h : (opIndex P t (opd tm y) (opd tm ix)).val = some (x, ws)) (hK : Fin w0 fr0 ρ fr own a w o K (own.puts ws) x) : o.wp P a w K Q := by
  have hy := r.eval y
  have hi := r.eval ix
  unfold opIndex at h
  split at h
  · rename_i ki kd i hix
    rw [hix] at hi
    have hi : a.eval ix = .int kd i := hi
    split at h
    · rename_i kn s ht he
      rw [he] at hy
      have hy : a.eval y = .string s := hy
      obtain ⟨hd, h'⟩ := Tr.ite_bad h
      clear h
      simp only [Bool.and_eq_true, decide_eq_true_eq] at hd
      obtain ⟨rfl, rfl⟩ := ret_pair h'
      have hlt : i.toNat < s.size := by omega
      have hg : s[i.toNat]? = some (s.get! i.toNat) := by
        rw [getElem?_pos s i.toNat hlt]
        congr 1
        simp [ByteArray.get!, hlt, ByteArray.getElem_eq_getElem_data]
      exact wp_pureK r hK (by simp [execOp, ho, hy, hi, Instr.index, asIntOf, run_und ht, hd.1, hg]) rfl
    · rename_i n e cs ht he
      rw [he] at hy
      obtain ⟨us, hu, hcs⟩ := hy
      split at h
      · rename_i ag m hm
        obtain ⟨j, rfl, _, hj, h⟩ := pickAt_some h
        obtain ⟨h1, h2⟩ := csIs_get hcs
        have hsz : (Go.sizeOf e).run P w = .ok m w := by
          cases ag with
          | true => exact (aggSize_true hm).2
          | false =>
            unfold aggSize at hm
            split at hm <;> simp at hm
            rename_i inf _ _ _ hinf
            rw [run_size hinf, hm]
        have hlt : (j : Int) < (n : Int) := by omega
        have run : ∀ u, (part e us.toArray (j * m)).run P w = .ok u w → (execOp a.eval o).run P w = .ok (.value u) w := fun u hp => by
          simp [execOp, ho, hu, hi, Instr.index, asIntOf, run_und ht, hsz, hp, show j < n by omega]
        unfold loadCs at h
        split at h
        · split at h
          · rename_i hlen
            have hlen := of_decide_eq_true hlen
            obtain ⟨rfl, rfl⟩ := ret_pair h
            refine wp_pureK r hK (run (.agg (us.toArray.extract (j * m) (j * m + m))) ?_) ⟨(us.drop (j * m)).take m, ?_, ?_⟩
            · simp [part, (aggSize_true hm).1, (aggSize_true hm).2]
            · congr 1; apply Array.ext'; simp [List.extract_eq_take_drop]
            · refine csIs_mk (by simp [h1]) fun q c u hq hqu => ?_
              rw [List.getElem?_take] at hq hqu
              split at hq
              · rename_i hqm
                rw [if_pos hqm] at hqu
                rw [List.getElem?_drop] at hq hqu
                obtain ⟨u', h3, h4⟩ := h2 _ c hq
                rw [h3] at hqu; cases hqu; exact h4
              · cases hq
          · cases h
        · split at h
          · rename_i c hc
            obtain ⟨rfl, rfl⟩ := ret_pair h
            obtain ⟨u, h3, h4⟩ := h2 _ c hc
            exact wp_pureK r hK (run u (by simp [part, aggSize_false hm, h3])) h4
          · cases h
      · cases h
    · cases h
  · cases h
theorem opPart_sound (r : Rep w0 fr0 ρ fr tm own a w) {s : TypeId} {y : Operand} {f : Nat} (ho : o.op = .field s y f) (h : (opPart P s (opd tm y) f).val = some (x, ws)) (hK : Fin w0 fr0 ρ fr own a w o K (own.puts ws) x) : o.wp P a w K Q := by
  have hy := r.eval y
  unfold opPart at h
  split at h
  · rename_i fs cs hs he
    rw [he] at hy
    obtain ⟨us, hu, hcs⟩ := hy
    split at h
    · rename_i fd hfd
      split at h
      · rename_i ag m hm
        obtain ⟨h1, h2⟩ := csIs_get hcs
        have run : ∀ u, (part fd.type us.toArray fd.offset).run P w = .ok u w → (execOp a.eval o).run P w = .ok (.value u) w := fun u hp => by
          simp [execOp, ho, hu, Instr.field, run_und hs, hfd, asAgg, hp]
        unfold loadCs at h
        split at h
        · split at h
          · rename_i hlen
            have hlen := of_decide_eq_true hlen
            obtain ⟨rfl, rfl⟩ := ret_pair h
            refine wp_pureK r hK (run (.agg (us.toArray.extract fd.offset (fd.offset + m))) ?_) ⟨(us.drop fd.offset).take m, ?_, ?_⟩
            · simp [part, (aggSize_true hm).1, (aggSize_true hm).2]
            · congr 1; apply Array.ext'; simp [List.extract_eq_take_drop]
            · refine csIs_mk (by simp [h1]) fun q c u hq hqu => ?_
              rw [List.getElem?_take] at hq hqu
              split at hq
              · rename_i hqm
                rw [if_pos hqm] at hqu
                rw [List.getElem?_drop] at hq hqu
                obtain ⟨u', h3, h4⟩ := h2 _ c hq
                rw [h3] at hqu; cases hqu; exact h4
              · cases hq
          · cases h
        · split at h
          · rename_i c hc
            obtain ⟨rfl, rfl⟩ := ret_pair h
            obtain ⟨u, h3, h4⟩ := h2 _ c hc
            exact wp_pureK r hK (run u (by simp [part, aggSize_false hm, h3])) h4
          · cases h
      · cases h
    · cases h
  · cases h
theorem partsIs_get : ∀ {l : List (Bool × List CV)} {us : List Value}, partsIs own ρ fr w l us → ∀ (j : Nat) q, l[j]? = some q → ∃ u, us[j]? = some u ∧ partIs own ρ fr w q u
  | [], _, _, _, _, h => by simp at h
  | q :: r, _, ⟨u, us', e, h1, h2⟩, j, q', hj => by
    subst e
    cases j with
    | zero => simp at hj; subst hj; exact ⟨u, rfl, h1⟩
    | succ j => simpa using partsIs_get h2 j q' (by simpa using hj)
theorem opExtract_sound (r : Rep w0 fr0 ρ fr tm own a w) {y : Operand} {i : Nat} (ho : o.op = .extract y i) (h : (opExtract (opd tm y) i).val = some (x, ws)) (hK : Fin w0 fr0 ρ fr own a w o K (own.puts ws) x) : o.wp P a w K Q := by
  have hy := r.eval y
  unfold opExtract at h
  split at h
  · rename_i l he
    rw [he] at hy
    obtain ⟨us, hu, hp⟩ := hy
    have run : ∀ u, us[i]? = some u → (execOp a.eval o).run P w = .ok (.value u) w := fun u hp => by
      simp [execOp, ho, hu, Instr.extract, hp]
    split at h
    · rename_i cs hl
      obtain ⟨rfl, rfl⟩ := ret_pair h
      obtain ⟨u, h1, vs, h2, h3⟩ := partsIs_get hp i _ hl
      exact wp_pureK r hK (run u h1) ⟨vs, h3, h2⟩
    · rename_i c hl
      obtain ⟨rfl, rfl⟩ := ret_pair h
      obtain ⟨u, h1, vs, h2, h3⟩ := partsIs_get hp i _ hl
      have h3 : vs = [u] := h3
      subst h3
      obtain ⟨u', us', e, h4, _⟩ := h2
      cases e
      exact wp_pureK r hK (run u h1) h4
    · cases h
  · cases h
end
end Go.Proofs.Ytacgchandefjgaa
