/-
  slices.SortFunc of an own row, by the library's contract: a contract of a function that is given own memory. No program is named here.
-/
import Derived.Test.YtjjmkmkllphecaaScn
import Derived.Shelf.SlSortCmp.NoneTotal
namespace Go.Proofs.Ytjjmkmkllphecaa
open Go Go.Shelf Go.Lib
def Ty.flatB : Ty → Bool
  | .prod a b => a.flatB && b.flatB
  | .list _ => false
  | _ => true
def encV : (t : Ty) → t.den → List Value
  | .int k, x => [.int k x]
  | .bool, x => [.bool x]
  | .str, x => [.string x]
  | .prod a b, x => encV a x.1 ++ encV b x.2
  | .list _, _ => [.bool false]
theorem encV_len : ∀ (t : Ty) (x : t.den), (encV t x).length = t.size
  | .int _, _ => rfl
  | .bool, _ => rfl
  | .str, _ => rfl
  | .prod a b, x => by simp [encV, Ty.size, encV_len a, encV_len b]
  | .list _, _ => rfl
theorem encV_one : ∀ (t : Ty) (x : t.den), ∀ v ∈ encV t x, v.oneCell' = true
  | .int _, _, v, h => by simp [encV] at h; subst h; rfl
  | .bool, _, v, h => by simp [encV] at h; subst h; rfl
  | .str, _, v, h => by simp [encV] at h; subst h; rfl
  | .prod a b, x, v, h => by
    rcases List.mem_append.1 h with h | h
    · exact encV_one a _ v h
    · exact encV_one b _ v h
  | .list _, _, v, h => by simp [encV] at h; subst h; rfl
theorem is_encV {w : World} {fr : Nat → Prop} : ∀ {t : Ty} {x : t.den} {us : List Value}, t.flatB = true → t.Is w fr x us → us = encV t x
  | .int _, _, _, _, h => h
  | .bool, _, _, _, h => h
  | .str, _, _, _, h => h
  | .prod a b, x, _, hf, ⟨us, ws, e, h1, h2⟩ => by
    unfold Ty.flatB at hf
    rw [Bool.and_eq_true] at hf
    rw [e, is_encV hf.1 h1, is_encV hf.2 h2]; rfl
  | .list _, _, _, hf, _ => by cases hf
theorem encV_is {w : World} {fr : Nat → Prop} : ∀ {t : Ty} (x : t.den), t.flatB = true → t.Is w fr x (encV t x)
  | .int _, _, _ => rfl
  | .bool, _, _ => rfl
  | .str, _, _ => rfl
  | .prod a b, x, hf => by
    unfold Ty.flatB at hf
    rw [Bool.and_eq_true] at hf
    exact ⟨_, _, rfl, encV_is x.1 hf.1, encV_is x.2 hf.2⟩
  | .list _, _, hf => by cases hf
/-- A sorted list, as the library sorts. -/
noncomputable def srtL {t : Ty} (cf : t.den → t.den → Int) (l : List t.den) : List t.den :=
  letI : Inhabited t.den := ⟨t.dflt⟩
  (Go.Sort.pdq (ltOf cf) l.toArray 0 l.toArray.size (Lib.bitLen l.toArray.size) true true).toList
theorem srtL_ok {t : Ty} {cf : t.den → t.den → Int} (hO : Go.Sort.SWO (ltOf cf)) (l : List t.den) : (srtL cf l).length = l.length ∧ (srtL cf l).Perm l ∧ (srtL cf l).Pairwise (fun a b => ltOf cf b a = false) := by
  letI : Inhabited t.den := ⟨t.dflt⟩
  have h := Go.Sort.pdq_sorts (ltOf cf) hO l.toArray 0 l.toArray.size (Lib.bitLen l.toArray.size) true true (Nat.zero_le _) (Nat.le_refl _) (Or.inl rfl)
  obtain ⟨⟨h1, _, h2⟩, h3⟩ := h
  have e : srtL cf l = (Go.Sort.pdq (ltOf cf) l.toArray 0 l.toArray.size (Lib.bitLen l.toArray.size) true true).toList := rfl
  generalize Go.Sort.pdq (ltOf cf) l.toArray 0 l.toArray.size (Lib.bitLen l.toArray.size) true true = d at *
  rw [e]
  have hs : d.size = l.length := by rw [h1]; simp
  refine ⟨by simpa using hs, ?_, ?_⟩
  · have e1 : (d.extract 0 l.toArray.size) = d := by rw [← h1]; simp
    have e2 : (l.toArray.extract 0 l.toArray.size) = l.toArray := by simp
    rw [e1, e2] at h2
    simpa using h2
  · rw [List.pairwise_iff_getElem]
    intro i j hi hj hij
    have hi' : i < d.size := by simpa using hi
    have hj' : j < d.size := by simpa using hj
    have := h3 i j (Nat.zero_le _) hij (by rw [← h1]; exact hj')
    rw [getElem!_pos d j hj', getElem!_pos d i hi'] at this
    simpa using this
/-- What the sort does: to a row of its type, by a known comparison. -/
noncomputable def srtK (kf : Bool) (g : FuncId) (t : Ty) (cf : t.den → t.den → Int) (st : Stt) : Option (Tr (Ex × Stt)) :=
  match st.tm with
  | [.one (.s _ k 0 none), .one (.fn g' [])] =>
    match Nat.beq g' g, st.own.look k with
    | true, some (.row true _ _ e t' l) => if h : t' = t then some (.br (decide (l.length ≤ 100000)) (.ret (.ret, ⟨[.tup []], st.own.set k (.row true kf false e t (srtL cf (h ▸ l))), st.nx⟩)) (.bad 902)) else none
    | _, _ => none
  | _ => none
noncomputable abbrev srtM (g : FuncId) (t : Ty) (cf : t.den → t.den → Int) := srtK false g t cf
section
open Go.Sort
theorem look_mapB (w : World) (b c : Nat) (f : Array Value → Array Value) (h : c ≠ b) : (mapBlock w b f).heap[c]? = w.heap[c]? := by
  unfold mapBlock
  simp [Array.getElem?_modify, Ne.symm h]
theorem look_mapB_self (w : World) (b : Nat) (f : Array Value → Array Value) {cur : Array Value} {e : TypeId} {m : Nat × Nat} (h : w.heap[b]? = some (.cells cur e m)) : (mapBlock w b f).heap[b]? = some (.cells (f cur) e m) := by
  unfold mapBlock
  simp [Array.getElem?_modify, h, onCells]
theorem srt_ok {kf : Bool} {P : Program} {ρf : Ren} (L : SlLaysF0.n6 P ρf) {t : Ty} (hf : t.flatB = true) (aE : ∀ w, (isAgg (ρf.t 24)).run P w = .ok true w) (zE : ∀ w, (Go.sizeOf (ρf.t 24)).run P w = .ok t.size w) {cf : t.den → t.den → Int} (hO : SWO (ltOf cf)) {g : FuncId}
    (eg : ∀ args w, (callFunc g args).run P w = .ok (.enter g args) w) (hcmp : letI : Inhabited t.den := ⟨t.dflt⟩; ∀ blk off size w, CmpLays P g #[] (encV t) t.size cf blk off size w) : OpenOK P (ρf.f 6) (srtK kf g t cf) := by
  letI : Inhabited t.den := ⟨t.dflt⟩
  intro st t0 ht r hr hk w0 fr0 ρ fr w us m hus
  unfold srtK at ht
  split at ht
  case h_2 => cases ht
  rename_i kn k g' htm
  split at ht
  case h_2 => cases ht
  rename_i kl kn' e t' l hg hlook
  have hg := Nat.eq_of_beq_eq_true hg
  subst hg
  split at ht
  case isFalse => cases ht
  rename_i hT
  subst hT
  simp only [Option.some.injEq] at ht
  subst ht
  obtain ⟨hlen, hr⟩ := br_bad hr
  have hlen := of_decide_eq_true hlen
  have hr := ret_some hr
  subst hr
  rw [htm] at hus
  obtain ⟨u1, us1, rfl, hu1, u2, us2, rfl, ⟨caps0, rfl, has⟩, rfl⟩ := hus
  cases has
  obtain ⟨o1, o2, o3⟩ := srtL_ok hO l
  have hu1 : SIs st.own ρ w k 0 none u1 := hu1
  obtain ⟨_, _, ad, c, hu1e, hc1, hc2, halt⟩ := sis_row m hlook hu1
  have hcl : cutLen l 0 none = l.length := rfl
  rw [hcl] at hu1e hc1 halt
  have hkeep : ∀ o, st.own.look k = some o → ρ k = ρ k ∧ Keeps o (.row true kf false e t' (srtL cf l)) := fun o ho => by
    rw [hlook] at ho
    cases ho
    exact ⟨rfl, .inr (.inr ⟨_, _, _, _, _, _, _, _, _, _, rfl, rfl, o1⟩)⟩
  have hrho : rho ρ k (ρ k) = ρ := by funext j; unfold rho; split <;> simp_all
  have hinj : ∀ k' o' c', k' ≠ k → st.own.look k' = some o' → o'.live → ρ k' = some c' → ρ k ≠ some c' := fun k' o' c' hne h1 h2 h3 h4 => hne (m.inj k' k o' _ c' h1 hlook h2 trivial h3 h4)
  rcases halt with ⟨hno, rfl, hz⟩ | ⟨b, C, hb, hB, hlC, hC, hrow, hadr⟩
  · -- no block
    have hl0 : l = [] := List.length_eq_zero_iff.1 hz
    have hs0 : srtL cf l = [] := List.length_eq_zero_iff.1 (by rw [o1, hz])
    rw [hu1e, hz]
    refine (AnyF.slices_SortFunc_none L ad 0 _ w).mono ?_
    rintro e' w' ⟨rfl, rfl⟩
    obtain ⟨r3, g3⟩ := m.put (k := k) (ob := .row true kf false e t' (srtL cf l)) (b := ρ k) hkeep (fun _ => hinj) (fun _ h => by cases h) (fun _ _ _ _ _ _ h => by cases h; exact .inl ⟨hno, hs0⟩)
    rw [hrho] at r3 g3
    exact ⟨.tuple #[], ρ, fr, rfl, r3, g3, [], rfl, rfl⟩
  · obtain ⟨rfl, hc0⟩ := hadr (.inl rfl)
    have hH : HoldsK (encV t') t'.size w b 0 l.toArray := fun j hj => by
      have hj' : j < l.length * t'.size := by simpa using hj
      have k0 : 0 < t'.size := t'.size_pos
      have hi : j / t'.size < l.length := Nat.div_lt_of_lt_mul (by rw [Nat.mul_comm]; exact hj')
      have hm : j % t'.size < t'.size := Nat.mod_lt _ k0
      obtain ⟨vs, h1, h2⟩ := hrow (j / t'.size) l[j / t'.size] (List.getElem?_eq_getElem hi)
      have hv := is_encV hf h1
      subst hv
      have hl : j % t'.size < (encV t' l[j / t'.size]).length := by rw [encV_len]; exact hm
      refine ⟨?_, hB.fz _⟩
      have h3 := h2 (j % t'.size) _ (List.getElem?_eq_getElem hl)
      have e1 : 0 + j / t'.size * t'.size + j % t'.size = 0 + j := by
        have := Nat.div_add_mod j t'.size
        rw [Nat.mul_comm] at this; omega
      rw [e1] at h3
      rw [h3, get_flatK _ _ _ _ (by simpa using hj')]
      have e2 : l.toArray[j / t'.size]! = l[j / t'.size] := by rw [getElem!_pos l.toArray _ (by simpa using hi)]; simp
      rw [e2, getElem!_pos (encV t' l[j / t'.size]) (j % t'.size) hl]; rfl
    have hblk : b < w.heap.size := hB.lt
    have hw0 := (m.below hlook trivial hb).2
    have hnf : ¬ fr b := by
      rcases m.rows k true kl kn' e t' l hlook with ⟨h, _⟩ | ⟨b', C', h1, _, _, _, _, _, h2, _⟩
      · rw [hb] at h; cases h
      · rw [hb] at h1; cases h1; exact h2 rfl
    have hsort := AnyQ.slices_SortFunc_eq L t'.size aE zE (encV t') (encV_len t') (encV_one t') cf hO g' #[] b 0 c l.toArray w eg (hcmp b 0 l.toArray.size w) hH hblk (by simp; omega)
    rw [hu1e]
    have hz0 : 0 * t'.size = 0 := Nat.zero_mul _
    rw [hz0]
    have hsz : l.toArray.size = l.length := by simp
    rw [← hsz]
    refine Calls.mono (show Calls P (ρf.f 6) #[.slice (some ⟨b, 0, none⟩) l.toArray.size c, .func (.func g') #[] #[]] w _ from hsort) ?_
    rintro e' w' ⟨rfl, n, os, hw'⟩
    have hdl : (Go.Sort.pdq (ltOf cf) l.toArray 0 l.toArray.size (Lib.bitLen l.toArray.size) true true) = (srtL cf l).toArray := by unfold srtL; simp
    rw [hdl] at hw'
    have hds : (srtL cf l).toArray.size = l.toArray.size := by simp [o1]
    have hold := holdsK_sortWorldK_c (encV t') t'.size w b 0 l.toArray (srtL cf l).toArray n os hH hblk hds
    rw [← hw'] at hold
    have hsize : w.heap.size ≤ w'.heap.size := by rw [hw']; exact size_sortWorldK_c (encV t') t'.size w b 0 n _ os
    have hother : ∀ c', c' < w.heap.size → c' ≠ b → w'.heap[c']? = w.heap[c']? := fun c' h1 h2 => by
      rw [hw']
      unfold sortWorldK putRowK putRow
      rw [heap_grow_old _ os (by simp [mapBlock, ahead]; exact h1), look_mapB _ _ _ _ h2]; rfl
    have hself : Blk w' b e (C * t'.size) := by
      obtain ⟨cur, h1, h2⟩ := hB
      refine ⟨putCells id 0 (flatK (encV t') t'.size (srtL cf l).toArray) cur, ?_, by simp [putCells, h2]⟩
      rw [hw']
      unfold sortWorldK putRowK putRow
      rw [heap_grow_old _ os (by simp [mapBlock, ahead]; exact hblk)]
      exact look_mapB_self (Go.Sort.ahead w n) b _ h1
    have hBk : ∀ c' e' n', Blk w c' e' n' → Blk w' c' e' n' := fun c' e' n' h => by
      by_cases hcb : c' = b
      · subst hcb
        obtain ⟨cur, h1, h2⟩ := h
        obtain ⟨cur2, h3, h4⟩ := hB
        rw [h1] at h3
        cases h3
        rw [← h2, h4]; exact hself
      · obtain ⟨cur, h1, h2⟩ := h
        exact ⟨cur, by rw [hother c' (Array.getElem?_eq_some_iff.1 h1).1 hcb]; exact h1, h2⟩
    have hext : Ext w0 w' := by
      have hx := m.ext
      refine ⟨⟨?_, ?_, ?_, Nat.le_trans hx.size hsize, fun q hq => ?_⟩, ?_⟩
      · rw [hw']; exact hx.os
      · rw [hw']; exact hx.tape
      · rw [hw']; exact hx.output
      · rw [hother q (Nat.lt_of_lt_of_le hq hx.size) (by omega)]; exact hx.block q hq
      · rw [hw']; exact Nat.le_trans hx.drawn (Nat.le_add_right _ _)
    have hrow' : RowAt w' fr t' (srtL cf l) b 0 := fun i x hi => by
      refine ⟨encV t' x, encV_is x hf, fun j u hj => ?_⟩
      have hil := (List.getElem?_eq_some_iff.1 hi).1
      have hjl : j < t'.size := by have := (List.getElem?_eq_some_iff.1 hj).1; rwa [encV_len] at this
      have hlt : i * t'.size + j < (srtL cf l).length * t'.size := by
        have : (i + 1) * t'.size ≤ (srtL cf l).length * t'.size := Nat.mul_le_mul_right _ hil
        rw [Nat.add_mul] at this; omega
      have h1 := (hold (i * t'.size + j) (by simpa using hlt)).1
      rw [get_flatK _ _ _ _ (by simpa using hlt)] at h1
      have e1 : (i * t'.size + j) / t'.size = i := by rw [Nat.mul_comm, Nat.mul_add_div t'.size_pos, Nat.div_eq_of_lt hjl, Nat.add_zero]
      have e2 : (i * t'.size + j) % t'.size = j := by rw [Nat.mul_comm, Nat.mul_add_mod, Nat.mod_eq_of_lt hjl]
      rw [e1, e2] at h1
      have e3 : (srtL cf l).toArray[i]! = x := by
        rw [getElem!_pos _ i (by simpa using hil)]
        have := List.getElem?_eq_getElem hil
        rw [hi] at this
        simpa using (Option.some.inj this).symm
      rw [e3] at h1
      have e4 : (encV t' x)[j]! = u := by
        have hjl2 : j < (encV t' x).length := by rw [encV_len]; exact hjl
        rw [getElem!_pos _ j hjl2]
        have := List.getElem?_eq_getElem hjl2
        rw [hj] at this
        exact (Option.some.inj this).symm
      rw [e4] at h1
      rw [Nat.add_assoc]; exact h1
    have gw : Grow st.own ρ fr w (st.own.set k (.row true kf false e t' (srtL cf l))) (rho ρ k (ρ k)) fr w' := by
      have g1 := grow_put (own := st.own) (ρ := ρ) (fr := fr) (w := w) (k := k) (ob := .row true kf false e t' (srtL cf l)) (b := ρ k) hkeep
      exact ⟨g1.key, g1.frz, fun q hq o => by
        have hqb : q ≠ b := fun h => hnf (h ▸ hq)
        simp only [World.cell?, hother q (m.frlt q hq) hqb], fun _ q e n _ _ h => hBk q e n h⟩
    have r3 := m.step gw hext hsize (fun j o q hne h1 h2 h3 => by
        obtain ⟨hq1, _⟩ := m.below h1 h2 h3
        exact hother q hq1 fun hqb => hne (m.inj j k o _ b h1 hlook h2 trivial (hqb ▸ h3) hb)) hBk (fun _ => hinj) (fun _ h => by cases h)
      (fun mu kl kn e2 t2 l2 h => by
        cases h
        exact .inr ⟨b, C, hb, hw0, hself, by rw [o1]; exact hlC, hC, hrow', fun _ => hnf, fun h => by cases h⟩)
    rw [hrho] at r3 gw
    exact ⟨.tuple #[], ρ, fr, rfl, r3, gw, [], rfl, rfl⟩
end
end Go.Proofs.Ytjjmkmkllphecaa
