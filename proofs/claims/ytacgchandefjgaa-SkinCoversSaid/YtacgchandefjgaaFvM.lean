/-
  The evaluator is right: an operation of any kind. No program is named here.
-/
import Derived.Test.YtacgchandefjgaaFvLz
namespace Go.Proofs.Ytacgchandefjgaa
open Go
/-- What is taken of calls that are given no own memory: they answer so, and leave old memory as it was. -/
def CallOK (P : Program) (call : CallT) : Prop := ∀ f args r, (call f args).val = some r → args.flatMap AV.keys = [] → ∀ w (fr : Nat → Prop) us, Bas w → (∀ b, fr b → b < w.heap.size) → asIs [] (fun _ => none) fr w args us →
  Calls P f us.toArray w fun e w' => ∃ v fr', e = .returned v ∧ Ext w w' ∧ (∀ b, fr b → fr' b) ∧ (∀ b, fr' b → fr b ∨ w.heap.size ≤ b) ∧ (∀ b, fr' b → b < w'.heap.size) ∧ r.is [] (fun _ => none) fr' w' v ∧ r.keys = []
section
variable {P : Program} {call : CallT} {w0 : World} {fr0 : Nat → Prop} {ρ : Nat → Option Nat} {fr : Nat → Prop} {tm : List AV} {own : Own} {a : Act} {w : World} {o : Oper} {K : Act → World → Prop} {Q : Exit → Act → World → Prop}
  {lk : Nat → Option OB} {key : Nat} {x : AV} {ws : List (Nat × OB)}
theorem opLen_sound (r : Rep w0 fr0 ρ fr tm own a w) (hlk : ∀ k ob, lk k = some ob → own.look k = some ob) {t : TypeId} {y : Operand}
    (ho : o.op = .call ⟨.builtin .len, #[y], #[t]⟩) (h : (opLen P lk o (opd tm) t (opd tm y)).val = some (x, ws)) (hK : Fin w0 fr0 ρ fr own a w o K (own.puts ws) x) : o.wp P a w K Q := by
  have hy := r.eval y
  have run : ∀ {u : Value}, (Builtin.len_ #[t] o.type #[a.eval y]).run P w = .ok u w → (execOp a.eval o).run P w = .ok (.value u) w := fun hr => by
    simp only [execOp, ho, resolve, invoke, builtin, Sem.run_bind, Sem.run_pure, Result.andThen_ok, List.map_toArray, List.map_cons, List.map_nil, hr]
  unfold opLen at h
  split at h
  · rename_i e kl kn ty l ht he
    rw [he] at hy
    obtain ⟨ad, c, e1, _⟩ := hy
    simp only [List.cons.injEq, and_true] at e1
    obtain ⟨rfl, rfl⟩ := ret_pair h
    exact wp_pureK r hK (run (u := .int .i64 l.length) (by rw [e1]; simp [Builtin.len_, run_und ht, goInt])) rfl
  · rename_i e kn k i n ht he
    rw [he] at hy
    split at h
    · rename_i mu kl kn' e' ty l hk
      obtain ⟨_, _, ad, c, e1, _⟩ := sis_row r.toRepM (hlk _ _ hk) hy
      obtain ⟨rfl, rfl⟩ := ret_pair h
      exact wp_pureK r hK (run (u := .int .i64 (cutLen l i n)) (by rw [e1]; simp [Builtin.len_, run_und ht, goInt])) rfl
    · rename_i cs hk
      split at h
      · rename_i m
        have hy : SIs own ρ w k i (some m) (a.eval y) := hy
        unfold SIs at hy
        rw [hlk _ _ hk] at hy
        obtain ⟨b, c, _, e1, _, _⟩ := hy.2 m rfl
        obtain ⟨rfl, rfl⟩ := ret_pair h
        exact wp_pureK r hK (run (u := .int .i64 m) (by rw [e1]; simp [Builtin.len_, run_und ht, goInt])) rfl
      · cases h
    · cases h
  · rename_i n e ht
    obtain ⟨rfl, rfl⟩ := ret_pair h
    exact wp_pureK r hK (run (u := .int .i64 n) (by simp [Builtin.len_, run_und ht, goInt])) rfl
  · exact generic_sound (by rw [ho]; simp) r h hK
theorem call_run {f : Operand} {args : Array Operand} {ats : Array TypeId} (ho : o.op = .call ⟨.value f, args, ats⟩) {n : FuncId} {as : List Value} (hf : a.eval f = .func (.func n) #[] as.toArray) (hn : callable P n = true) :
    (execOp a.eval o).run P w = .ok (.enter n (args.toList.map a.eval ++ as).toArray) w := by
  unfold callable at hn
  split at hn
  · rename_i fn hfn
    simp only [Bool.and_eq_true, Bool.not_eq_true', beq_eq_false_iff_ne, ne_eq, Option.isSome_iff_exists] at hn
    obtain ⟨h1, c, h2⟩ := hn
    simp [execOp, ho, resolve, hf, Deferred.ofValue, invoke, callFunc, hfn, h1, h2]
  · cases hn
theorem asIs_evals (r : Rep w0 fr0 ρ fr tm own a w) : ∀ (ys : List Operand), asIs own ρ fr w (ys.map (opd tm)) (ys.map a.eval)
  | [] => rfl
  | y :: ys => ⟨_, _, rfl, r.eval y, asIs_evals r ys⟩
theorem flat_is {c : CV} {u : Value} {ρ' : Nat → Option Nat} {fr' : Nat → Prop} {own' : Own} {w' : World} (h : c.flat = true) (hx : c.is own ρ fr w u) : c.is own' ρ' fr' w' u := by
  cases c with
  | v _ _ => exact hx
  | fn f caps =>
    cases caps with
    | nil =>
      obtain ⟨as, e, ha⟩ := hx
      cases ha
      exact ⟨[], e, rfl⟩
    | cons q r => cases h
  | _ => cases h
theorem flats_is {ρ' : Nat → Option Nat} {fr' : Nat → Prop} {own' : Own} {w' : World} : ∀ {l : List CV} {us : List Value}, l.all CV.flat = true → csIs own ρ fr w l us → csIs own' ρ' fr' w' l us
  | [], _, _, h => h
  | c :: cs, _, hf, ⟨u, us', e, h1, h2⟩ => by
    simp only [List.all_cons, Bool.and_eq_true] at hf
    exact ⟨u, us', e, flat_is hf.1 h1, flats_is hf.2 h2⟩
theorem flatp_is {ρ' : Nat → Option Nat} {fr' : Nat → Prop} {own' : Own} {w' : World} : ∀ {l : List (Bool × List CV)} {us : List Value}, (l.flatMap (·.2)).all CV.flat = true → partsIs own ρ fr w l us → partsIs own' ρ' fr' w' l us
  | [], _, _, h => h
  | q :: r, _, hf, ⟨u, us', e, ⟨vs, h1, h1'⟩, h2⟩ => by
    rw [List.flatMap_cons, List.all_append, Bool.and_eq_true] at hf
    exact ⟨u, us', e, ⟨vs, flats_is hf.1 h1, h1'⟩, flatp_is hf.2 h2⟩
theorem AV.flat_is {x : AV} {u : Value} {ρ' : Nat → Option Nat} {fr' : Nat → Prop} {own' : Own} {w' : World} (h : x.flat = true) (hx : x.is own ρ fr w u) : x.is own' ρ' fr' w' u := by
  cases x with
  | one c => exact Go.Proofs.Ytacgchandefjgaa.flat_is (by simpa [AV.flat, AV.cvs] using h) hx
  | ag l =>
    obtain ⟨us, e, hu⟩ := hx
    exact ⟨us, e, flats_is h hu⟩
  | tup l =>
    obtain ⟨us, e, hu⟩ := hx
    exact ⟨us, e, flatp_is h hu⟩
/-- What has no keys says the same whatever own memory there is. -/
theorem nokey_is {c : CV} {u : Value} {ρ' : Nat → Option Nat} {own' : Own} (h : c.keys = []) (hx : c.is own ρ fr w u) : c.is own' ρ' fr w u := by
  cases c with
  | v _ _ => exact hx
  | fn f caps =>
    cases caps with
    | nil =>
      obtain ⟨as, e, ha⟩ := hx
      cases ha
      exact ⟨[], e, rfl⟩
    | cons q r => simp [CV.keys] at h
  | junk => trivial
  | d _ _ _ _ => exact hx
  | e _ _ _ _ => exact hx
  | p _ _ => simp [CV.keys] at h
  | s _ _ _ _ => simp [CV.keys] at h
  | ap _ _ _ _ _ => simp [CV.keys] at h
theorem nokeys_is {ρ' : Nat → Option Nat} {own' : Own} : ∀ {l : List CV} {us : List Value}, l.flatMap CV.keys = [] → csIs own ρ fr w l us → csIs own' ρ' fr w l us
  | [], _, _, h => h
  | c :: cs, _, hk, ⟨u, us', e, h1, h2⟩ => by
    rw [List.flatMap_cons, List.append_eq_nil_iff] at hk
    exact ⟨u, us', e, nokey_is hk.1 h1, nokeys_is hk.2 h2⟩
theorem nokeyp_is {ρ' : Nat → Option Nat} {own' : Own} : ∀ {l : List (Bool × List CV)} {us : List Value}, (l.flatMap (·.2)).flatMap CV.keys = [] → partsIs own ρ fr w l us → partsIs own' ρ' fr w l us
  | [], _, _, h => h
  | q :: r, _, hk, ⟨u, us', e, ⟨vs, h1, h1'⟩, h2⟩ => by
    rw [List.flatMap_cons, List.flatMap_append, List.append_eq_nil_iff] at hk
    exact ⟨u, us', e, ⟨vs, nokeys_is hk.1 h1, h1'⟩, nokeyp_is hk.2 h2⟩
theorem AV.nokey_is {x : AV} {u : Value} {ρ' : Nat → Option Nat} {own' : Own} (h : x.keys = []) (hx : x.is own ρ fr w u) : x.is own' ρ' fr w u := by
  cases x with
  | one c => exact Go.Proofs.Ytacgchandefjgaa.nokey_is (by simpa [AV.keys, AV.cvs] using h) hx
  | ag l =>
    obtain ⟨us, e, hu⟩ := hx
    exact ⟨us, e, nokeys_is h hu⟩
  | tup l =>
    obtain ⟨us, e, hu⟩ := hx
    exact ⟨us, e, nokeyp_is h hu⟩
/-- Blocks that are read alone are more. -/
theorem RepM.more (r : RepM w0 fr0 ρ fr own w) {fr' : Nat → Prop} (h1 : ∀ b, fr b → fr' b) (h2 : ∀ b, fr' b → b < w.heap.size) (h3 : ∀ b, fr' b → fr b ∨ w0.heap.size ≤ b)
    (h4 : ∀ k cs b, own.look k = some (.cells cs) → ρ k = some b → ¬ fr' b) (h5 : ∀ k kl kn e t l b, own.look k = some (.row true kl kn e t l) → ρ k = some b → ¬ fr' b) : RepM w0 fr0 ρ fr' own w ∧ Grow own ρ fr w own ρ fr' w := by
  have g : Grow own ρ fr w own ρ fr' w := ⟨fun k ob h => ⟨rfl, ob, h, Keeps.rfl' ob⟩, h1, fun _ _ _ => rfl, fun _ _ _ _ _ _ h => h⟩
  refine ⟨{ ext := r.ext, bas := r.bas, frlt := h2, frnew := fun b hb => (h3 b hb).elim (r.frnew b) .inr, frold := fun b hb => h1 b (r.frold b hb), cells := ?_, rows := ?_, inj := r.inj, okC := r.okC }, g⟩
  · intro k cs hk
    obtain ⟨b, a1, a2, a3, a4, a5, a6⟩ := r.cells k cs hk
    refine ⟨b, a1, a2, a3, h4 k cs b hk a1, a5, fun j x hj => ?_⟩
    obtain ⟨u, hu, hx⟩ := a6 j x hj
    exact ⟨u, hu, g.is (fun k' hk' => r.okC k cs hk k' (List.mem_flatMap.2 ⟨x, List.mem_of_getElem? hj, hk'⟩)) hx⟩
  · intro k mu kl kn e t l hk
    rcases r.rows k mu kl kn e t l hk with h | ⟨b, C, a1, a2, a3, a4, a5, a6, a7, a8⟩
    · exact .inl h
    · exact .inr ⟨b, C, a1, a2, a3, a4, a5, a6.mono h1 (fun _ _ _ => rfl) (fun _ => rfl), (fun hm => by subst hm; exact h5 k kl kn e t l b hk a1), fun hm => h1 b (a8 hm)⟩
/-- A copy of a slice, by a function whose body says so. -/
theorem opClone_sound (r : Rep w0 fr0 ρ fr tm own a w) (hlk : ∀ k ob, lk k = some ob → own.look k = some ob) (hkey : (∃ ob, (key, ob) ∈ ws) → own.look key = none) {f : Operand} {args : Array Operand} {ats : Array TypeId}
    (ho : o.op = .call ⟨.value f, args, ats⟩) {n : FuncId} (hfe : a.eval f = .func (.func n) #[] #[]) (hn : callable P n = true) {t : TypeId} (hct : cloneT P n = some t) {z : Operand} (ha : args.toList = [z])
    (h : (opAppend P lk key t t (.one (.v true (.slice none 0 0))) (opd tm z)).val = some (x, ws)) (hK : Fin w0 fr0 ρ fr own a w o K (own.puts ws) x) : o.wp P a w K Q := by
  have hz := r.eval z
  unfold opAppend at h
  split at h
  · rename_i e ht12 ht
    split at h
    · rename_i ie hie
      split at h
      · rename_i z0 hz0
        split at h
        · rename_i hx
          cases hx
        · split at h
          · rename_i ty hty
            split at h
            · rename_i ks ke ys hsrc hd
              simp only [Bool.and_eq_true, decide_eq_true_eq] at hd
              obtain ⟨⟨hs1, hs2⟩, _⟩ := hd
              obtain ⟨hc, h'⟩ := Tr.ite_bad h
              clear h
              simp only [Bool.and_eq_true, decide_eq_true_eq] at hc
              obtain ⟨rfl, rfl⟩ := ret_pair h'
              have hk0 := hkey ⟨_, List.mem_singleton.2 rfl⟩
              obtain ⟨sa, sc, hu2, hl2, us, hf, hsa⟩ := srcOf_is r.toRepM hlk hsrc hz
              unfold Oper.wp
              rw [call_run (as := []) ho hfe hn]
              simp only [List.append_nil, ha, List.map_cons, List.map_nil]
              rw [hu2]
              refine (clone_calls (R := fun e' w' => ∃ v ρ' , e' = .returned v ∧ RepM w0 fr0 ρ' fr (own.set key (.row true ks ke e ty ys)) w' ∧ Grow own ρ fr w (own.set key (.row true ks ke e ty ys)) ρ' fr w' ∧ SIs (own.set key (.row true ks ke e ty ys)) ρ' w' key 0 none v) hct ht hie ?_ ?_).mono ?_
              · intro hsn
                have hys : ys = [] := by
                  cases ys with
                  | nil => rfl
                  | cons y0 ys0 =>
                    obtain ⟨b, o', e', _⟩ := hsa (by simp)
                    rw [hsn] at e'; cases e'
                subst hys
                obtain ⟨r3, g3⟩ := r.toRepM.put (k := key) (ob := .row true ks ke e ty []) (b := none) (fresh_live hk0) (fun _ _ _ _ _ _ _ _ h => by cases h) (fun _ e => by cases e) (fun _ _ _ _ _ _ e' => by cases e'; exact .inl ⟨rfl, rfl⟩)
                refine ⟨_, _, rfl, r3, g3, ?_⟩
                unfold SIs
                simp only [Own.look_set, if_true, cutLen]
                exact ⟨by simp, .inl ⟨by simp [rho], ⟨none, rfl⟩, by simp⟩⟩
              · intro hsn ty'
                have hx : Ext w (w.alloc (.cells #[] e)) := (Ext.refl w).alloc _
                obtain ⟨r1, g1⟩ := r.toRepM.grow hx
                have hfx : Flat (w.alloc (.cells #[] e)) fr ty ys us := ⟨hf.1, hf.2.1, fun i x hi => by
                  obtain ⟨vs, e1, e2⟩ := hf.2.2 i x hi
                  exact ⟨vs, e1.mono (fun _ h => h) (fun b hb o => g1.frc b hb o), e2⟩⟩
                obtain ⟨u, w', b, h4, h5, h6, h7⟩ := append_core (ty' := ty') (kl := ks) (kn := ke) (l0 := []) (us0 := []) r1 ht hie hz0 hs1 hs2 Flat.nil hfx hk0 hl2 (fun hy => by
                    obtain ⟨b, o', e', h8⟩ := hsa hy
                    exact ⟨b, o', e', fun j v hj => Lib.cell?_alloc_some _ (h8 j v hj)⟩) (by simpa using hc.1) (by simpa using hc.2) (.slice (some ⟨w.heap.size, 0, none⟩) 0 0) (.inl ⟨⟨_, rfl⟩, rfl⟩)
                simp only [List.nil_append] at h5 h6 h7
                exact ⟨u, w', h4, u, _, rfl, h5, g1.trans h6, h7⟩
              · rintro e' w' ⟨v, ρ', rfl, r3, g3, hv⟩
                show K (a.put o.dst v) w'
                exact hK ρ' fr v w' r3 g3 hv
            · cases h
          · cases h
        · cases h
      · cases h
    · cases h
  · cases h
theorem ofVals_is (kn : Bool) : ∀ vs : List Value, asIs own ρ fr w (vs.map (AV.ofVal kn)) vs
  | [] => rfl
  | v :: vs => ⟨_, _, rfl, ofVal_is kn v, ofVals_is kn vs⟩
theorem ofVals_keys (kn : Bool) : ∀ vs : List Value, (vs.map (AV.ofVal kn)).flatMap AV.keys = []
  | [] => rfl
  | v :: vs => by rw [List.map_cons, List.flatMap_cons, ofVal_keys, ofVals_keys kn vs]; rfl
theorem opInvoke_sound (hc : CallOK P call) (hsel : ∀ cs b, o.op ≠ .select cs b) (r : Rep w0 fr0 ρ fr tm own a w) (h : (opInvoke P call o (opd tm)).val = some (x, ws)) (hK : Fin w0 fr0 ρ fr own a w o K (own.puts ws) x) : o.wp P a w K Q := by
  unfold opInvoke at h
  split at h
  · cases h
  · rename_i hall
    have e : execOp a.eval o = execOp (fun x => rawOr (opd tm x)) o := execOp_congr o hsel fun y hy => by
      rw [List.all_eq_true] at hall
      exact rawOr_is (hall _ (List.mem_map.2 ⟨y, by simpa using hy, rfl⟩)) (r.eval y)
    split at h
    · rename_i f vs hy
      obtain ⟨z, hz, h⟩ := Tr.bind_some h
      split at h
      · rename_i hfl
        obtain ⟨rfl, rfl⟩ := ret_pair h
        unfold Oper.wp
        rw [e, pureRun_run hy w]
        have hcall := hc f _ z hz (ofVals_keys _ vs.toList) w fr vs.toList (Bas.ext r.ext r.bas) r.frlt (ofVals_is _ vs.toList)
        rw [show vs.toList.toArray = vs from by simp] at hcall
        refine hcall.mono ?_
        rintro e w' ⟨v, fr3, rfl, hx, f1, f2, f3, hv, hvk⟩
        show K (a.put o.dst v) w'
        obtain ⟨r3, g3⟩ := r.toRepM.grow hx
        exact hK ρ fr v w' r3 g3 (AV.flat_is hfl hv)
      · cases h
    · cases h
theorem opCall_sound (hc : CallOK P call) (r : Rep w0 fr0 ρ fr tm own a w) (hlk : ∀ k ob, lk k = some ob → own.look k = some ob) (hkey : (∃ ob, (key, ob) ∈ ws) → own.look key = none) {f : Operand} {args : Array Operand} {ats : Array TypeId}
    (ho : o.op = .call ⟨.value f, args, ats⟩) (h : (opCall P call lk key (opd tm f) (args.toList.map (opd tm))).val = some (x, ws)) (hK : Fin w0 fr0 ρ fr own a w o K (own.puts ws) x) : o.wp P a w K Q := by
  have hf := r.eval f
  unfold opCall at h
  split at h
  · rename_i n he
    rw [he] at hf
    obtain ⟨as0, hfe, ha⟩ := hf
    cases ha
    split at h
    · rename_i t y hn hct hargs
      obtain ⟨z, hz⟩ : ∃ z, args.toList = [z] := by
        cases hl : args.toList with
        | nil => rw [hl] at hargs; cases hargs
        | cons z l =>
          cases l with
          | nil => exact ⟨z, rfl⟩
          | cons _ _ => rw [hl] at hargs; cases hargs
      rw [hz] at hargs
      simp only [List.map_cons, List.map_nil, List.cons.injEq, and_true] at hargs
      subst hargs
      exact opClone_sound r hlk hkey ho hfe hn hct hz h hK
    · rename_i hn _
      split at h
      case h_2 => cases h
      rename_i as has
      obtain ⟨z, hz, h⟩ := Tr.bind_some h
      obtain ⟨rfl, rfl⟩ := ret_pair h
      obtain ⟨fr2, r2, g2, ht2, hk2, hb2⟩ := freezeL_ok ((args.toList.map (opd tm)).flatMap AV.keys) r.toRepM (told_of hlk)
      obtain ⟨l1, l2⟩ := lendAll_is r.toRepM hlk g2.frz [] (fun _ => none) has hb2 (asIs_evals r args.toList)
      unfold Oper.wp
      rw [call_run ho hfe hn]
      simp only [List.append_nil]
      refine (hc n as z hz l2 w fr2 _ (Bas.ext r2.ext r2.bas) r2.frlt l1).mono ?_
      rintro e w' ⟨v, fr3, rfl, hx, f1, f2, f3, hv, hvk⟩
      show K (a.put o.dst v) w'
      cases hfl : z.flat with
      | true =>
        rw [hfl] at hK
        obtain ⟨r3, g3⟩ := r.toRepM.grow hx
        exact hK ρ fr v w' r3 g3 (AV.flat_is hfl hv)
      | false =>
        rw [hfl] at hK
        obtain ⟨r3, g3⟩ := r2.grow hx
        obtain ⟨r4, g4⟩ := r3.more f1 f3 (fun b hb => (f2 b hb).imp id fun h => Nat.le_trans r.ext.size h)
          (fun k cs b hk hb hf3 => by
            obtain ⟨b', a1, _, a3, a4, _⟩ := r2.cells k cs hk
            rw [hb] at a1; cases a1
            rcases f2 b hf3 with h | h
            · exact a4 h
            · omega)
          (fun k kl kn e t l b hk hb hf3 => by
            rcases r2.rows k true kl kn e t l hk with ⟨h, _⟩ | ⟨b', C, a1, a2, a3, _, _, _, a7, _⟩
            · rw [hb] at h; cases h
            · rw [hb] at a1; cases a1
              rcases f2 b hf3 with h | h
              · exact a7 rfl h
              · have := a3.lt; omega)
        exact hK ρ fr3 v w' r4 ((g2.trans g3).trans g4) (AV.nokey_is hvk hv)
    · cases h
  · cases h
theorem opEq_sound (pos : Bool) (r : Rep w0 fr0 ρ fr tm own a w) {t yt : TypeId} {y z : Operand} (ho : o.op = .binOp (if pos then .eql else .neq) t y z yt) (h : (opBin.opEq P o (opd tm) t pos (opd tm y) (opd tm z)).val = some (x, ws)) (hK : Fin w0 fr0 ρ fr own a w o K (own.puts ws) x) : o.wp P a w K Q := by
  have hy := r.eval y
  have hz := r.eval z
  have gen : (generic P o (opd tm)).val = some (x, ws) → o.wp P a w K Q := fun h => generic_sound (by rw [ho]; simp) r h hK
  unfold opBin.opEq at h
  split at h
  · rename_i k1 xs k2 ys h1 h2
    have e1 := rawA_is h1 hy
    have e2 := rawA_is h2 hz
    split at h
    · rename_i b hg hb
      obtain ⟨rfl, rfl⟩ := ret_pair h
      have := eqB_run hb Op.maxDepth (by decide) w
      cases pos
      · exact wp_pureK r hK (u := .bool (!b)) (by simp [execOp, ho, e1, e2, eqGuard, hg, binOp, Op.equal, this]) rfl
      · exact wp_pureK r hK (u := .bool b) (by simp [execOp, ho, e1, e2, eqGuard, hg, binOp, Op.equal, this]) rfl
    · cases h
  · rename_i k1 xs k2 ys h1 h2
    have e1 := rawA_is h1 hy
    have e2 := rawA_is h2 hz
    split at h
    · rename_i b hb
      obtain ⟨rfl, rfl⟩ := ret_pair h
      have := eqB_run hb Op.maxDepth (by decide) w
      cases pos
      · exact wp_pureK r hK (u := .bool (!b)) (by simp [execOp, ho, e1, e2, eqGuard, binOp, Op.equal, this]) rfl
      · exact wp_pureK r hK (u := .bool b) (by simp [execOp, ho, e1, e2, eqGuard, binOp, Op.equal, this]) rfl
    · cases h
  · cases h
  · cases h
  · exact gen h
  · cases h
theorem d_nonnil {kn : Bool} {t : Ty} {x0 : t.den} {l0 : List t.den} {u : Value} (h : AV.is own ρ fr w (.one (.d true kn t (x0 :: l0))) u) : ∃ ad c, u = .slice ad (x0 :: l0).length c ∧ ad ≠ none := by
  obtain ⟨ad, c, e, _, _, h⟩ := h
  obtain ⟨b, o, rfl, _⟩ := h (by simp)
  exact ⟨_, c, by simpa using e, by simp⟩
theorem opBin_sound (r : Rep w0 fr0 ρ fr tm own a w) {op : BinOp} {t yt : TypeId} {y z : Operand} (ho : o.op = .binOp op t y z yt) (h : (opBin P o (opd tm) op t (opd tm y) (opd tm z)).val = some (x, ws)) (hK : Fin w0 fr0 ρ fr own a w o K (own.puts ws) x) : o.wp P a w K Q := by
  have hy := r.eval y
  have hz := r.eval z
  unfold opBin at h
  split at h
  · rename_i k1 k x1 k2 k' x2 h1 h2
    rw [h1] at hy; rw [h2] at hz
    have e1 : a.eval y = .int k x1 := hy
    have e2 : a.eval z = .int k' x2 := hz
    split at h
    · rename_i hk
      have hk := of_decide_eq_true hk
      obtain ⟨hb, h'⟩ := Tr.ite_bad h
      clear h
      obtain ⟨rfl, rfl⟩ := ret_pair h'
      exact wp_pureK r hK (u := .int k (k.wrap (x1.tdiv x2))) (by simp [execOp, ho, e1, e2, eqGuard, binOp, hk, Op.intDiv, show ¬ (x2 = 0) by simpa using hb]) rfl
    · cases h
  · rename_i k1 k x1 k2 k' x2 h1 h2
    rw [h1] at hy; rw [h2] at hz
    have e1 : a.eval y = .int k x1 := hy
    have e2 : a.eval z = .int k' x2 := hz
    split at h
    · rename_i hk
      have hk := of_decide_eq_true hk
      obtain ⟨hb, h'⟩ := Tr.ite_bad h
      clear h
      obtain ⟨rfl, rfl⟩ := ret_pair h'
      exact wp_pureK r hK (u := .int k (x1.tmod x2)) (by simp [execOp, ho, e1, e2, eqGuard, binOp, hk, Op.intDiv, show ¬ (x2 = 0) by simpa using hb]) rfl
    · cases h
  · rename_i k1 k x1 k2 k' x2 h1 h2
    rw [h1] at hy; rw [h2] at hz
    have e1 : a.eval y = .int k x1 := hy
    have e2 : a.eval z = .int k' x2 := hz
    obtain ⟨hb, h'⟩ := Tr.ite_bad h
    clear h
    have hb := of_decide_eq_true hb
    obtain ⟨rfl, rfl⟩ := ret_pair h'
    exact wp_pureK r hK (u := .int k (k.wrap (x1 * 2 ^ (min x2.toNat k.bits)))) (by simp [execOp, ho, e1, e2, eqGuard, binOp, Op.shift, show ¬ (x2 < 0) by omega]) rfl
  · rename_i k1 k x1 k2 k' x2 h1 h2
    rw [h1] at hy; rw [h2] at hz
    have e1 : a.eval y = .int k x1 := hy
    have e2 : a.eval z = .int k' x2 := hz
    obtain ⟨hb, h'⟩ := Tr.ite_bad h
    clear h
    have hb := of_decide_eq_true hb
    obtain ⟨rfl, rfl⟩ := ret_pair h'
    exact wp_pureK r hK (u := .int k (x1.fdiv (2 ^ (min x2.toNat k.bits)))) (by simp [execOp, ho, e1, e2, eqGuard, binOp, Op.shift, show ¬ (x2 < 0) by omega]) rfl
  · rename_i kn t' x0 l0 h1 h2
    rw [h1] at hy; rw [h2] at hz
    have e2 : a.eval z = .slice none 0 0 := hz
    obtain ⟨ad, c, e1, hne⟩ := d_nonnil hy
    unfold opBin.opNe at h
    split at h
    · rename_i e ht
      obtain ⟨rfl, rfl⟩ := ret_pair h
      cases ad with
      | none => exact absurd rfl hne
      | some q => exact wp_pureK r hK (u := .bool false) (by
          have := slice_nil_eq (P := P) w t e (some q) (x0 :: l0).length c 0 0 ht
          simp at this
          simp [execOp, ho, e1, e2, eqGuard, this]) rfl
    · cases h
  · rename_i kn t' x0 l0 h1 h2
    rw [h1] at hy; rw [h2] at hz
    have e2 : a.eval z = .slice none 0 0 := hz
    obtain ⟨ad, c, e1, hne⟩ := d_nonnil hy
    unfold opBin.opNe at h
    split at h
    · rename_i e ht
      obtain ⟨rfl, rfl⟩ := ret_pair h
      cases ad with
      | none => exact absurd rfl hne
      | some q => exact wp_pureK r hK (u := .bool true) (by
          have := slice_nil_ne (P := P) w t e (some q) (x0 :: l0).length c 0 0 ht
          simp at this
          simp [execOp, ho, e1, e2, eqGuard, this]) rfl
    · cases h
  · rename_i h1 h2
    rw [h1] at hy; rw [h2] at hz
    have e1 : a.eval y = .slice none 0 0 := hy
    have e2 : a.eval z = .slice none 0 0 := hz
    unfold opBin.opNe at h
    split at h
    · rename_i e ht
      obtain ⟨rfl, rfl⟩ := ret_pair h
      exact wp_pureK r hK (u := .bool true) (by
          have := slice_nil_eq (P := P) w t e none 0 0 0 0 ht
          simp at this
          simp [execOp, ho, e1, e2, eqGuard, this]) rfl
    · cases h
  · exact opEq_sound true r (by simpa using ho) h hK
  · exact opEq_sound false r (by simpa using ho) h hK
  · rename_i k1 x1 k2 x2 h1 h2
    rw [h1] at hy; rw [h2] at hz
    have e1 : a.eval y = .string x1 := hy
    have e2 : a.eval z = .string x2 := hz
    obtain ⟨hb, h'⟩ := Tr.ite_bad h
    clear h
    have hb := of_decide_eq_true hb
    obtain ⟨rfl, rfl⟩ := ret_pair h'
    exact wp_pureK r hK (u := .string (x1 ++ x2)) (by
      simp [execOp, ho, e1, e2, eqGuard, binOp, Op.stringOp]
      omega) rfl
  · exact generic_sound (by rw [ho]; simp) r h hK
theorem ptrAll_is (r : Rep w0 fr0 ρ fr tm own a w) : ∀ {ys : List Operand} {l : List (Nat × Nat)}, ptrAll (ys.map (opd tm)) = some l → capsIs ρ l (ys.map a.eval)
  | [], l, h => by simp only [List.map_nil, ptrAll, Option.some.injEq] at h; subst h; rfl
  | y :: ys, l, h => by
    have hy := r.eval y
    simp only [List.map_cons] at h
    cases he : opd tm y with
    | one c =>
      rw [he] at h hy
      cases c with
      | p k off =>
        simp only [ptrAll] at h
        split at h
        · rename_i l' hl
          simp only [Option.some.injEq] at h; subst h
          obtain ⟨b, hb, hu⟩ := hy
          exact ⟨b, _, by rw [List.map_cons, hu], hb, ptrAll_is r hl⟩
        · cases h
      | _ => simp [ptrAll] at h
    | ag l => rw [he] at h; simp [ptrAll] at h
    | tup l => rw [he] at h; simp [ptrAll] at h
theorem opF_sound (hc : CallOK P call) (r : Rep w0 fr0 ρ fr tm own a w) (hlk : ∀ k ob, lk k = some ob → own.look k = some ob) (hkey : (∃ ob, (key, ob) ∈ ws) → own.look key = none)
    (h : (opF P call lk key o (opd tm)).val = some (x, ws)) (hK : Fin w0 fr0 ρ fr own a w o K (own.puts ws) x) : o.wp P a w K Q := by
  have gen : (∀ cs b, o.op ≠ .select cs b) → (generic P o (opd tm)).val = some (x, ws) → o.wp P a w K Q := fun hs h => generic_sound hs r h hK
  unfold opF at h
  split at h <;> rename_i ho
  case h_1 elem =>
    split at h
    · rename_i z hz
      obtain ⟨i, hi, hiz⟩ := Option.bind_eq_some_iff.1 hz
      obtain ⟨rfl, rfl⟩ := ret_pair h
      have hk0 := hkey ⟨_, List.mem_singleton.2 rfl⟩
      have hzv : (zeroValue elem).run P w = .ok z w := by simp [zeroValue, run_info hi, hiz]
      obtain ⟨r3, g3⟩ := r.toRepM.new (T := elem) hk0 (cs := z.cells.toList.map (CV.ofV true)) (us := z.cells) (ofVs_is true _) (okKeys_nil (ofVs_keys true _))
      exact wp_value (u := .pointer (some ⟨w.heap.size, 0, none⟩)) (by simp [execOp, ho, Instr.alloc, hzv, run_newVar]) (hK _ fr _ _ r3 g3 ⟨w.heap.size, by simp [rho], rfl⟩)
    · cases h
  case h_2 T y =>
    split at h
    · rename_i cs hcs
      obtain ⟨rfl, rfl⟩ := ret_pair h
      have hk0 := hkey ⟨_, List.mem_singleton.2 rfl⟩
      obtain ⟨a1, _, a3⟩ := asCells_is hcs (r.eval y)
      obtain ⟨r3, g3⟩ := r.toRepM.new (T := T) hk0 a1 (by rw [a3]; exact opd_ok r.okT y)
      exact wp_value (u := .pointer (some ⟨w.heap.size, 0, none⟩)) (by simp [execOp, ho, Instr.box, run_newVar]) (hK _ fr _ _ r3 g3 ⟨w.heap.size, by simp [rho], rfl⟩)
    · cases h
  case h_3 t y => exact opLoad_sound r hlk ho h hK
  case h_4 t y z => exact opStore_sound r hlk ho h hK
  case h_5 s y f => exact opField_sound r ho h hK
  case h_6 t y ix => exact opIndexAddr_sound r hlk ho h hK
  case h_7 t y ix => exact opIndex_sound r ho h hK
  case h_8 s y f => exact opPart_sound r ho h hK
  case h_9 y i => exact opExtract_sound r ho h hK
  case h_10 t ps => exact opBuild_sound r ho h hK
  case h_11 t n ps => exact opSliceLit_sound r hlk hkey ho h hK
  case h_12 t y z => exact opMake_sound r hkey ho h hK
  case h_13 t y lo hi mx => exact opSlice_sound r hlk hkey ho h hK
  case h_14 y =>
    have hy := r.eval y
    split at h
    · rename_i k off he
      rw [he] at hy
      obtain ⟨b, hb, hu⟩ := hy
      obtain ⟨rfl, rfl⟩ := ret_pair h
      exact wp_pureK r hK (u := a.eval y) (by simp [execOp, ho, hu]) ⟨b, hb, hu⟩
    · rename_i kn t z off he
      rw [he] at hy
      obtain ⟨rfl, rfl⟩ := ret_pair h
      have hy' := hy
      obtain ⟨b, base, hu, _⟩ := hy'
      exact wp_pureK r hK (u := a.eval y) (by simp [execOp, ho, hu]) hy
    · rename_i kn k i m off he
      rw [he] at hy
      obtain ⟨b, hb, hu⟩ := hy
      obtain ⟨rfl, rfl⟩ := ret_pair h
      exact wp_pureK r hK (u := a.eval y) (by simp [execOp, ho, hu]) ⟨b, hb, hu⟩
    · rename_i f caps he
      rw [he] at hy
      obtain ⟨as, hu, ha⟩ := hy
      obtain ⟨rfl, rfl⟩ := ret_pair h
      exact wp_pureK r hK (u := a.eval y) (by simp [execOp, ho, hu]) ⟨as, hu, ha⟩
    · exact gen (by rw [ho]; simp) h
  case h_15 fn first caps =>
    split at h
    · rename_i f l hfirst hl
      obtain ⟨rfl, rfl⟩ := ret_pair h
      have hf0 : first = #[] := by simpa using hfirst
      refine wp_pureK r hK (u := .func (.func f) #[] (caps.toList.map a.eval).toArray) ?_ ⟨_, rfl, ptrAll_is r hl⟩
      have : caps.map a.eval = (caps.toList.map a.eval).toArray := by apply Array.ext'; simp
      simp [execOp, ho, Instr.makeFunc, hf0, this]
    · exact gen (by rw [ho]; simp) h
    · cases h
  case h_16 cl =>
    obtain ⟨callee, args, ats⟩ := cl
    split at h
    · rename_i f hcal
      simp only at hcal; subst hcal
      dsimp only at h
      split at h
      · exact opInvoke_sound hc (by rw [ho]; simp) r h hK
      · exact opCall_sound hc r hlk hkey ho h hK
    · rename_i b hcal
      simp only at hcal; subst hcal
      simp only at h
      split at h
      · rename_i t1 t2 y z ha hb
        have e1 : ats = #[t1, t2] := by apply Array.ext'; simpa using ha
        have e2 : args = #[y, z] := by apply Array.ext'; simpa using hb
        subst e1; subst e2
        split at h
        · exact opAppend_sound r hlk hkey ho h hK
        · exact opAppZ_sound r hkey ho h hK
      · rename_i t y ha hb
        have e1 : ats = #[t] := by apply Array.ext'; simpa using ha
        have e2 : args = #[y] := by apply Array.ext'; simpa using hb
        subst e1; subst e2
        exact opLen_sound r hlk ho h hK
      · cases h
      · rename_i t1 t2 y z ha hb
        have e1 : ats = #[t1, t2] := by apply Array.ext'; simpa using ha
        have e2 : args = #[y, z] := by apply Array.ext'; simpa using hb
        subst e1; subst e2
        exact opCopy_sound r hlk ho h hK
      · cases h
      · rename_i t y ha hb
        have e1 : ats = #[t] := by apply Array.ext'; simpa using ha
        have e2 : args = #[y] := by apply Array.ext'; simpa using hb
        subst e1; subst e2
        exact opClear_sound r hlk ho h hK
      · cases h
      · cases h
      · exact gen (by rw [ho]; simp) h
    · exact opInvoke_sound hc (by rw [ho]; simp) r h hK
  case h_17 op t y z yt => exact opBin_sound r ho h hK
  case h_18 => exact gen (by rw [ho]; simp) h
  case h_19 => exact gen (by rw [ho]; simp) h
  case h_20 s d y => exact opConv_sound r hlk ho h hK
  case h_21 => cases h
end
end Go.Proofs.Ytacgchandefjgaa
