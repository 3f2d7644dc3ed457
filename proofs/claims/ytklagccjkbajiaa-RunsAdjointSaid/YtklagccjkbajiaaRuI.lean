/-
  Layer 6: RunsSets, RunsAdjoint.
-/
import Derived.Test.YtklagccjkbajiaaProg
import Derived.Test.YtklagccjkbajiaaFvX
import Derived.Test.YtklagccjkbajiaaFvZ
import Derived.Test.YtklagccjkbajiaaAut
import Derived.Test.YtklagccjkbajiaaRd
import Derived.Test.YtklagccjkbajiaaPl
import Derived.Test.YtklagccjkbajiaaScn
import Derived.Test.YtklagccjkbajiaaRunM
import Derived.Test.YtklagccjkbajiaaRunN
import Derived.Test.YtklagccjkbajiaaRunS
import Derived.Test.YtklagccjkbajiaaRunT
import Derived.Test.YtklagccjkbajiaaSrt
import Derived.Test.YtklagccjkbajiaaRunH
import Derived.Test.YtklagccjkbajiaaRuA
import Derived.Test.YtklagccjkbajiaaRuB
import Derived.Test.YtklagccjkbajiaaRuC
import Derived.Test.YtklagccjkbajiaaRuD
import Derived.Test.YtklagccjkbajiaaRuE
import Derived.Test.YtklagccjkbajiaaRuF
import Derived.Test.YtklagccjkbajiaaRuG
import Derived.Test.YtklagccjkbajiaaRuH
namespace Go.Proofs.Ytklagccjkbajiaa
open Go
theorem ok_in {L : Rl} (h : okR L = true) : ∀ r ∈ filR L, r.1 < r.2 ∧ -1048577 < r.1 ∧ r.2 ≤ 1048576 := fun r hr => by
  obtain ⟨a, b⟩ := List.mem_filter.1 hr
  have b := of_decide_eq_true b
  have c := List.all_eq_true.1 h r a
  rw [decide_eq_true b, cond_true, Bool.and_eq_true, decide_eq_true_eq, decide_eq_true_eq] at c
  exact ⟨b, Int.lt_of_lt_of_le (by decide) c.1, c.2⟩
theorem nm_ok {L : Rl} (h : okR L = true) : valR (nmL L) ∧ ∀ x, memR (nmL L) x ↔ memR L x := by
  obtain ⟨_, o2, o3⟩ := srtL_ok (t := (.prod (.int .i64) (.int .i64))) cmpR_swo (filR L)
  have hm : ∀ r, r ∈ srtL (t := (.prod (.int .i64) (.int .i64))) cmpR (filR L) ↔ r ∈ filR L := fun r => o2.mem_iff
  obtain ⟨m1, m2, m3⟩ := mrgR_ok (L := srtL (t := (.prod (.int .i64) (.int .i64))) cmpR (filR L)) (lo := -1048577) (fun r hr => ⟨(ok_in h r ((hm r).1 hr)).1, (ok_in h r ((hm r).1 hr)).2.1⟩) (o3.imp fun {a b} h => by
    rw [cmpR_lt] at h
    have := of_decide_eq_false h
    omega)
  have e : nmL L = mrgR (srtL (t := (.prod (.int .i64) (.int .i64))) cmpR (filR L)) := by
    unfold nmL
    rw [h, srt_nf h]; rfl
  rw [e]
  refine ⟨⟨m1, m3 1048576 (by decide) fun r hr => (ok_in h r ((hm r).1 hr)).2.2⟩, fun x => ?_⟩
  rw [m2, ← memR_fil (L := L)]
  unfold memR
  constructor
  · rintro ⟨r, hr, g⟩; exact ⟨r, (hm r).1 hr, g⟩
  · rintro ⟨r, hr, g⟩; exact ⟨r, (hm r).2 hr, g⟩
theorem cho_mem (A B : Rl) (an : Int) (x : Int) : memR (seg (fun x => opE an (memB A x) (memB B x)) (bsR (A ++ B))) x ↔ opE an (memB A x) (memB B x) = true := by
  have sA : ∀ r ∈ A, r ∈ A ++ B := fun r h => List.mem_append_left _ h
  have sB : ∀ r ∈ B, r ∈ A ++ B := fun r h => List.mem_append_right _ h
  refine seg_mem (fun x => opE an (memB A x) (memB B x)) (bsR_asc _) (fun y hy x hyx hz => ?_) (fun x hx => ?_) (fun x hx => ?_) x
  · show opE an (memB A x) (memB B x) = opE an (memB A y) (memB B y)
    rw [memB_const sA hyx hz, memB_const sB hyx hz]
  · show opE an (memB A x) (memB B x) = false
    rw [memB_low sA hx, memB_low sB hx, opE_ff]
  · show opE an (memB A x) (memB B x) = false
    rw [memB_high sA hx, memB_high sB hx, opE_ff]
theorem ch_ok {A B : Rl} (ha : valR A) (hb : valR B) (an : Int) : valR (chL A B an) ∧ ∀ x, memB (chL A B an) x = opE an (memB A x) (memB B x) := by
  have bd : ∀ y ∈ bsR (A ++ B), -1048576 ≤ y ∧ y ≤ 1048576 := fun y hy => by
    obtain ⟨r, hr, _, h⟩ := bsR_mem.1 hy
    have : -1048576 ≤ r.1 ∧ r.1 < r.2 ∧ r.2 ≤ 1048576 := by
      rcases List.mem_append.1 hr with h | h
      · exact val_in ha r h
      · exact val_in hb r h
    rcases h with rfl | rfl <;> omega
  have e : chL A B an = mrgR (seg (fun x => opE an (memB A x) (memB B x)) (bsR (A ++ B))) := by
    unfold chL
    rw [valB_of ha, valB_of hb, cho_nf]; rfl
  have hv := seg_val (fun x => opE an (memB A x) (memB B x)) (bsR_asc (A ++ B)) bd
  rw [e]
  refine ⟨hv, fun x => ?_⟩
  obtain ⟨s1, s2⟩ := seg_ok (fun x => opE an (memB A x) (memB B x)) (bsR_asc (A ++ B))
  obtain ⟨_, m2, _⟩ := mrgR_ok (lo := -1048577) (fun r hr => ⟨(s1 r hr).1, by have := bd _ (s1 r hr).2.1; omega⟩) s2
  rw [Bool.eq_iff_iff, memB_iff, m2, cho_mem]
theorem empty_iff {L : Rl} (h : valR L) : L.length = 0 ↔ ∀ x, memB L x = false := by
  constructor
  · intro h0 x
    rw [List.length_eq_zero_iff.1 h0]; rfl
  · intro hx
    cases L with
    | nil => rfl
    | cons r L =>
      have := hx r.1
      rw [← Bool.not_eq_true, memB_iff, memR_cons] at this
      exact absurd (.inl ⟨Int.le_refl _, h.1.2.1⟩) this
theorem sub_empty {A B : Rl} (ha : valR A) (hb : valR B) : (chL A B 0).length = 0 ↔ ∀ x, memR A x → memR B x := by
  obtain ⟨h1, h2⟩ := ch_ok ha hb 0
  rw [empty_iff h1]
  have e : ∀ p q, opE 0 p q = (p && !q) := fun p q => by cases p <;> cases q <;> rfl
  constructor
  · intro h x hx
    have := h x
    rw [h2, e, memB_iff.2 hx] at this
    rw [← memB_iff]
    simpa using this
  · intro h x
    rw [h2, e]
    cases hA : memB A x
    · rfl
    · rw [memB_iff.2 (h x (memB_iff.1 hA))]; rfl
theorem sub_emptyB {A B : Rl} (ha : valR A) (hb : valR B) : (((chL A B 0).length : Int) == 0) = @decide (∀ x, memR A x → memR B x) (Classical.propDecidable _) := by
  have h := sub_empty ha hb
  by_cases g : ∀ x, memR A x → memR B x
  · rw [@decide_eq_true _ (Classical.propDecidable _) g, h.2 g]; rfl
  · rw [@decide_eq_false _ (Classical.propDecidable _) g, ← Bool.not_eq_true, beq_iff_eq]
    intro e
    exact g (h.1 (by omega))
theorem endR_le {N : Int} : ∀ {M : Rl} {lo : Int}, lo ≤ N → (∀ r ∈ M, r.2 ≤ N) → endR lo M ≤ N
  | [], _, h, _ => h
  | r :: M, _, _, h => endR_le (M := M) (h r (List.mem_cons_self ..)) fun q hq => h q (List.mem_cons_of_mem _ hq)
theorem nr_shrink {k : Int} (k0 : 0 ≤ k) : ∀ {L : Rl} {lo : Int}, Nr lo L → Nr lo (mvR L k (-k))
  | [], _, _ => trivial
  | r :: L, lo, ⟨h1, h2, h3⟩ => by
    have ih := nr_shrink k0 h3
    unfold mvR at ih ⊢
    by_cases g : r.1 + k < r.2 + -k
    · rw [List.filter_cons_of_pos (by simpa using g)]
      exact ⟨by show lo < r.1 + k; omega, g, ih.weak (by show r.2 + -k ≤ r.2; omega)⟩
    · rw [List.filter_cons_of_neg (by simpa using g)]
      exact ih.weak (by omega)
theorem val_shrink {L : Rl} {k : Int} (h : valR L) (k0 : 0 ≤ k) : valR (mvR L k (-k)) := by
  refine ⟨nr_shrink k0 h.1, endR_le (by decide) fun q hq => ?_⟩
  obtain ⟨r, hr, rfl⟩ := List.mem_map.1 hq
  have := val_in h r (List.mem_filter.1 hr).1
  show r.2 + -k ≤ 1048576
  omega
theorem sk_eq {L : Rl} {k : Int} (h : valR L) (k0 : 0 ≤ k) (k1 : k ≤ 65536) : skR L k = mvR L k (-k) := by
  unfold skR
  rw [valB_of h, decide_eq_true k0, decide_eq_true (show k ≤ 1048576 by omega)]; rfl
theorem gw_e {L : Rl} {k : Int} (h : gwE L k = 0) : valR L ∧ 0 ≤ k ∧ k ≤ 65536 ∧ okR (mvR L (-k) k) = true := by
  unfold gwE nmE at h
  cases hv : valB L
  · rw [hv] at h; cases h
  · by_cases k0 : 0 ≤ k
    · by_cases k1 : k ≤ 65536
      · refine ⟨valB_iff.1 hv, k0, k1, ?_⟩
        rw [hv, decide_eq_true k0, decide_eq_true k1] at h
        cases ho : okR (mvR L (-k) k)
        · rw [ho] at h; cases h
        · rfl
      · rw [hv, decide_eq_false k1, Bool.and_false, Bool.and_false] at h; cases h
    · rw [hv, decide_eq_false k0, Bool.false_and, Bool.and_false] at h; cases h
theorem gw_eq {L : Rl} {k : Int} (h : valR L) (k0 : 0 ≤ k) (k1 : k ≤ 65536) (ho : okR (mvR L (-k) k) = true) : gwE L k = 0 ∧ valR (gwL L k) ∧ ∀ x, memR (gwL L k) x ↔ memR (mvR L (-k) k) x := by
  have e : gwL L k = nmL (mvR L (-k) k) := by
    unfold gwL
    rw [valB_of h, decide_eq_true k0, decide_eq_true k1]; rfl
  refine ⟨?_, ?_⟩
  · unfold gwE nmE
    rw [valB_of h, decide_eq_true k0, decide_eq_true k1, ho]; rfl
  · rw [e]; exact nm_ok ho
theorem ok_back {L : Rl} {k : Int} (h : valR L) : okR (mvR (mvR L k (-k)) (-k) k) = true := by
  unfold okR
  rw [List.all_eq_true]
  intro q hq
  obtain ⟨r, hr, rfl⟩ := List.mem_map.1 hq
  obtain ⟨s, hs, rfl⟩ := List.mem_map.1 (List.mem_filter.1 hr).1
  have := val_in h s (List.mem_filter.1 hs).1
  have e1 : decide (-1048576 ≤ s.1 + k + -k) = true := decide_eq_true (by omega)
  have e2 : decide (s.2 + -k + k ≤ 1048576) = true := decide_eq_true (by omega)
  show (bif decide (s.1 + k + -k < s.2 + -k + k) then (decide (-1048576 ≤ s.1 + k + -k) && decide (s.2 + -k + k ≤ 1048576)) else true) = true
  rw [e1, e2]
  cases decide (s.1 + k + -k < s.2 + -k + k) <;> rfl
/-- Grow and Shrink are adjoint. -/
theorem adj_all {A B : Rl} {k : Int} (ha : valR A) (hb : valR B) (hg : gwE A k = 0) :
    (((chL (gwL A k) B 0).length : Int) == 0) = (((chL A (skR B k) 0).length : Int) == 0) ∧ ((chL A (skR (gwL A k) k) 0).length : Int) = 0 ∧ gwE (skR B k) k = 0 ∧ ((chL (gwL (skR B k) k) B 0).length : Int) = 0 := by
  obtain ⟨_, k0, k1, ho⟩ := gw_e hg
  obtain ⟨_, g2, g3⟩ := gw_eq ha k0 k1 ho
  have sB := sk_eq hb k0 k1
  have sW := sk_eq g2 k0 k1
  have vB := val_shrink hb k0
  have vW := val_shrink g2 k0
  obtain ⟨o1, o2, o3⟩ := gw_eq vB k0 k1 (ok_back (k := k) hb)
  have pos : ∀ {L : Rl}, valR L → ∀ r ∈ L, r.1 < r.2 := fun h r hr => (val_in h r hr).2.1
  rw [sB, sW]
  refine ⟨?_, ?_, o1, ?_⟩
  · rw [sub_emptyB g2 hb, sub_emptyB ha vB]
    have := adj (pos ha) hb.1 k0
    have iff1 : (∀ x, memR (gwL A k) x → memR B x) ↔ (∀ x, memR A x → memR (mvR B k (-k)) x) := ⟨fun h => this.1 fun x hx => h x ((g3 x).2 hx), fun h x hx => this.2 h x ((g3 x).1 hx)⟩
    rw [propext iff1]
  · have h := (sub_empty ha vW).2 ((adj (pos ha) g2.1 k0).1 fun x hx => (g3 x).2 hx)
    omega
  · have h := (sub_empty o2 hb).2 fun x hx => (adj (pos vB) hb.1 k0).2 (fun x hx => hx) x ((o3 x).1 hx)
    omega
theorem skR_le (L : Rl) (k : Int) : (skR L k).length ≤ L.length := skR_len L k
set_option maxRecDepth 100000 in
theorem law_RunsAdjoint_tree (A : (Ty.list (.prod (.int .i64) (.int .i64))).den) (B : (Ty.list (.prod (.int .i64) (.int .i64))).den) (k : Int) : evalF Try.prog ruH_S52 (opens []) ruH_L51 9 7 [.one (.d false false (.prod (.int .i64) (.int .i64)) A), .one (.d false false (.prod (.int .i64) (.int .i64)) B), .one (.v false (.int .i64 k))] = .br (((decide (List.length (fewR A) ≤ (10000 : Nat))) && ((decide (List.length (fewR B) ≤ (10000 : Nat))) && ((decide (List.length (nmL (fewR A)) ≤ (10000 : Nat))) && (bif bif bif nmE (fewR A) != (0 : Int) then true else nmE (fewR B) != (0 : Int) then true else gwE (nmL (fewR A)) k != (0 : Int) then true else (((decide (List.length (gwL (nmL (fewR A)) k) ≤ (4000 : Nat)) && decide (List.length (nmL (fewR B)) ≤ (4000 : Nat)))) && ((decide (List.length (nmL (fewR B)) ≤ (100000 : Nat))) && (((decide (List.length (nmL (fewR A)) ≤ (4000 : Nat)) && decide (List.length (skR (nmL (fewR B)) k) ≤ (4000 : Nat)))) && (bif !((↑(List.length (chL (gwL (nmL (fewR A)) k) (nmL (fewR B)) (0 : Int))) : Int) == (0 : Int)) == ((↑(List.length (chL (nmL (fewR A)) (skR (nmL (fewR B)) k) (0 : Int))) : Int) == (0 : Int)) then (bif true then true else ((decide (List.length (nmL (fewR B)) ≤ (100000 : Nat))) && ((decide (List.length (skR (nmL (fewR B)) k) ≤ (10000 : Nat))) && (bif gwE (skR (nmL (fewR B)) k) k == (0 : Int) then ((decide (List.length (gwL (skR (nmL (fewR B)) k) k) ≤ (4000 : Nat)) && decide (List.length (nmL (fewR B)) ≤ (4000 : Nat)))) else true)))) else ((decide (List.length (gwL (nmL (fewR A)) k) ≤ (100000 : Nat))) && (((decide (List.length (nmL (fewR A)) ≤ (4000 : Nat)) && decide (List.length (skR (gwL (nmL (fewR A)) k) k) ≤ (4000 : Nat)))) && (bif (↑(List.length (chL (nmL (fewR A)) (skR (gwL (nmL (fewR A)) k) k) (0 : Int))) : Int) != (0 : Int) then true else ((decide (List.length (nmL (fewR B)) ≤ (100000 : Nat))) && ((decide (List.length (skR (nmL (fewR B)) k) ≤ (10000 : Nat))) && (bif gwE (skR (nmL (fewR B)) k) k == (0 : Int) then ((decide (List.length (gwL (skR (nmL (fewR B)) k) k) ≤ (4000 : Nat)) && decide (List.length (nmL (fewR B)) ≤ (4000 : Nat)))) else true))))))))))))))) (.ret (.one (.v false (.bool (bif bif bif nmE (fewR A) != (0 : Int) then true else nmE (fewR B) != (0 : Int) then true else gwE (nmL (fewR A)) k != (0 : Int) then true else bif !((↑(List.length (chL (gwL (nmL (fewR A)) k) (nmL (fewR B)) (0 : Int))) : Int) == (0 : Int)) == ((↑(List.length (chL (nmL (fewR A)) (skR (nmL (fewR B)) k) (0 : Int))) : Int) == (0 : Int)) then false else bif (↑(List.length (chL (nmL (fewR A)) (skR (gwL (nmL (fewR A)) k) k) (0 : Int))) : Int) != (0 : Int) then false else bif gwE (skR (nmL (fewR B)) k) k == (0 : Int) then bif (↑(List.length (chL (gwL (skR (nmL (fewR B)) k) k) (nmL (fewR B)) (0 : Int))) : Int) == (0 : Int) then true else false else false))))) (.bad 116) := by kernel_rfl
set_option maxHeartbeats 4000000 in
theorem law_RunsAdjoint_all (A : (Ty.list (.prod (.int .i64) (.int .i64))).den) (B : (Ty.list (.prod (.int .i64) (.int .i64))).den) (k : Int) (r0 : Ty.InR (.list (.prod (.int .i64) (.int .i64))) A) (r1 : Ty.InR (.list (.prod (.int .i64) (.int .i64))) B) (l2 : -9223372036854775808 ≤ k) (g2 : k ≤ 9223372036854775807) : Tr.all (fun r => ∃ kn, r = AV.one (.v kn (.bool true))) (.br (((decide (List.length (fewR A) ≤ (10000 : Nat))) && ((decide (List.length (fewR B) ≤ (10000 : Nat))) && ((decide (List.length (nmL (fewR A)) ≤ (10000 : Nat))) && (bif bif bif nmE (fewR A) != (0 : Int) then true else nmE (fewR B) != (0 : Int) then true else gwE (nmL (fewR A)) k != (0 : Int) then true else (((decide (List.length (gwL (nmL (fewR A)) k) ≤ (4000 : Nat)) && decide (List.length (nmL (fewR B)) ≤ (4000 : Nat)))) && ((decide (List.length (nmL (fewR B)) ≤ (100000 : Nat))) && (((decide (List.length (nmL (fewR A)) ≤ (4000 : Nat)) && decide (List.length (skR (nmL (fewR B)) k) ≤ (4000 : Nat)))) && (bif !((↑(List.length (chL (gwL (nmL (fewR A)) k) (nmL (fewR B)) (0 : Int))) : Int) == (0 : Int)) == ((↑(List.length (chL (nmL (fewR A)) (skR (nmL (fewR B)) k) (0 : Int))) : Int) == (0 : Int)) then (bif true then true else ((decide (List.length (nmL (fewR B)) ≤ (100000 : Nat))) && ((decide (List.length (skR (nmL (fewR B)) k) ≤ (10000 : Nat))) && (bif gwE (skR (nmL (fewR B)) k) k == (0 : Int) then ((decide (List.length (gwL (skR (nmL (fewR B)) k) k) ≤ (4000 : Nat)) && decide (List.length (nmL (fewR B)) ≤ (4000 : Nat)))) else true)))) else ((decide (List.length (gwL (nmL (fewR A)) k) ≤ (100000 : Nat))) && (((decide (List.length (nmL (fewR A)) ≤ (4000 : Nat)) && decide (List.length (skR (gwL (nmL (fewR A)) k) k) ≤ (4000 : Nat)))) && (bif (↑(List.length (chL (nmL (fewR A)) (skR (gwL (nmL (fewR A)) k) k) (0 : Int))) : Int) != (0 : Int) then true else ((decide (List.length (nmL (fewR B)) ≤ (100000 : Nat))) && ((decide (List.length (skR (nmL (fewR B)) k) ≤ (10000 : Nat))) && (bif gwE (skR (nmL (fewR B)) k) k == (0 : Int) then ((decide (List.length (gwL (skR (nmL (fewR B)) k) k) ≤ (4000 : Nat)) && decide (List.length (nmL (fewR B)) ≤ (4000 : Nat)))) else true))))))))))))))) (.ret (.one (.v false (.bool (bif bif bif nmE (fewR A) != (0 : Int) then true else nmE (fewR B) != (0 : Int) then true else gwE (nmL (fewR A)) k != (0 : Int) then true else bif !((↑(List.length (chL (gwL (nmL (fewR A)) k) (nmL (fewR B)) (0 : Int))) : Int) == (0 : Int)) == ((↑(List.length (chL (nmL (fewR A)) (skR (nmL (fewR B)) k) (0 : Int))) : Int) == (0 : Int)) then false else bif (↑(List.length (chL (nmL (fewR A)) (skR (gwL (nmL (fewR A)) k) k) (0 : Int))) : Int) != (0 : Int) then false else bif gwE (skR (nmL (fewR B)) k) k == (0 : Int) then bif (↑(List.length (chL (gwL (skR (nmL (fewR B)) k) k) (nmL (fewR B)) (0 : Int))) : Int) == (0 : Int) then true else false else false))))) (.bad 116)) := by
  have ha := few_len A
  have hb := few_len B
  have l1 := nmL_len (fewR A)
  have l2 := nmL_len (fewR B)
  have l3 := gwL_len (nmL (fewR A)) k
  have l4 := skR_len (nmL (fewR B)) k
  have l5 := skR_len (gwL (nmL (fewR A)) k) k
  have l6 := gwL_len (skR (nmL (fewR B)) k) k
  have c1 : decide ((fewR A).length ≤ 10000) = true := decide_eq_true (by omega)
  have c2 : decide ((fewR B).length ≤ 10000) = true := decide_eq_true (by omega)
  have c3 : decide ((nmL (fewR A)).length ≤ 10000) = true := decide_eq_true (by omega)
  have c4 : decide ((nmL (fewR A)).length ≤ 4000) = true := decide_eq_true (by omega)
  have c5 : decide ((nmL (fewR B)).length ≤ 4000) = true := decide_eq_true (by omega)
  have c6 : decide ((nmL (fewR B)).length ≤ 100000) = true := decide_eq_true (by omega)
  have c7 : decide ((gwL (nmL (fewR A)) k).length ≤ 4000) = true := decide_eq_true (by omega)
  have c8 : decide ((gwL (nmL (fewR A)) k).length ≤ 100000) = true := decide_eq_true (by omega)
  have c9 : decide ((skR (nmL (fewR B)) k).length ≤ 4000) = true := decide_eq_true (by omega)
  have ca : decide ((skR (nmL (fewR B)) k).length ≤ 10000) = true := decide_eq_true (by omega)
  have cb : decide ((skR (gwL (nmL (fewR A)) k) k).length ≤ 4000) = true := decide_eq_true (by omega)
  have cc : decide ((gwL (skR (nmL (fewR B)) k) k).length ≤ 4000) = true := decide_eq_true (by omega)
  simp only [c1, c2, c3, c4, c5, c6, c7, c8, c9, ca, cb, cc, Bool.and_self, Bool.true_and]
  cases e1 : nmE (fewR A) != (0 : Int)
  · cases e2 : nmE (fewR B) != (0 : Int)
    · cases e3 : gwE (nmL (fewR A)) k != (0 : Int)
      · have oA : okR (fewR A) = true := by
          unfold nmE at e1
          cases h : okR (fewR A)
          · rw [h] at e1; cases e1
          · rfl
        have oB : okR (fewR B) = true := by
          unfold nmE at e2
          cases h : okR (fewR B)
          · rw [h] at e2; cases e2
          · rfl
        have hg : gwE (nmL (fewR A)) k = 0 := by simpa using e3
        obtain ⟨z1, z2, z3, z4⟩ := adj_all (nm_ok oA).1 (nm_ok oB).1 hg
        simp only [z1, z2, z3, z4, beq_self_eq_true, bne_self_eq_false, Bool.not_true, cond_true, cond_false]
        cases (((chL (nmL (fewR A)) (skR (nmL (fewR B)) k) 0).length : Int) == 0) <;> exact ⟨fun _ => ⟨_, rfl⟩, fun h => by cases h⟩
      · simp only [cond_true, cond_false]
        exact ⟨fun _ => ⟨_, rfl⟩, fun h => by cases h⟩
    · simp only [cond_true, cond_false]
      exact ⟨fun _ => ⟨_, rfl⟩, fun h => by cases h⟩
  · simp only [cond_true, cond_false]
    exact ⟨fun _ => ⟨_, rfl⟩, fun h => by cases h⟩
set_option maxHeartbeats 4000000 in
theorem law_RunsAdjoint (v0 : Value) (x0 : ((.list (.prod (.int .i64) (.int .i64))) : Ty).den) (r0 : Ty.InR (.list (.prod (.int .i64) (.int .i64))) x0) (v1 : Value) (x1 : ((.list (.prod (.int .i64) (.int .i64))) : Ty).den) (r1 : Ty.InR (.list (.prod (.int .i64) (.int .i64))) x1) (k : Int) (l2 : -9223372036854775808 ≤ k) (g2 : k ≤ 9223372036854775807) (z_w : World) (i0 : (AV.one (.d false false (.prod (.int .i64) (.int .i64)) x0)).is [] (fun _ => none) (fun b => b < z_w.heap.size) z_w v0) (i1 : (AV.one (.d false false (.prod (.int .i64) (.int .i64)) x1)).is [] (fun _ => none) (fun b => b < z_w.heap.size) z_w v1) : Calls Try.prog 7 #[v0, v1, .int .i64 k] z_w fun e w' => e = .returned (.bool true) ∧ Ext z_w w' := by
  obtain ⟨A, rfl⟩ : ∃ y, y = x0 := ⟨_, rfl⟩
  obtain ⟨B, rfl⟩ : ∃ y, y = x1 := ⟨_, rfl⟩
  refine law_of_tree (by kernel_rfl) (ruH_S52_ok) (ruH_L51_ok) (law_RunsAdjoint_tree A B k) (law_RunsAdjoint_all A B k r0 r1 l2 g2) rfl z_w _ _ (fun _ h => h) ⟨_, _, rfl, i0, ⟨_, _, rfl, i1, ⟨_, _, rfl, rfl, rfl⟩⟩⟩
end Go.Proofs.Ytklagccjkbajiaa
