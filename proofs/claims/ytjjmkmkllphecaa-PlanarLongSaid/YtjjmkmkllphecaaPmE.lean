/-
  Layer 5: PlanarCounts.
-/
import Derived.Test.YtjjmkmkllphecaaProg
import Derived.Test.YtjjmkmkllphecaaFvX
import Derived.Test.YtjjmkmkllphecaaFvZ
import Derived.Test.YtjjmkmkllphecaaAut
import Derived.Test.YtjjmkmkllphecaaRd
import Derived.Test.YtjjmkmkllphecaaPl
import Derived.Test.YtjjmkmkllphecaaShelf
import Derived.Test.YtjjmkmkllphecaaScn
import Derived.Test.YtjjmkmkllphecaaSrt
import Derived.Test.YtjjmkmkllphecaaFrs
import Derived.Test.YtjjmkmkllphecaaPmA
import Derived.Test.YtjjmkmkllphecaaPmB
import Derived.Test.YtjjmkmkllphecaaPmC
import Derived.Test.YtjjmkmkllphecaaPmD
namespace Go.Proofs.Ytjjmkmkllphecaa
open Go
def kn1 (p : Int × Int) : Bool → List (Int × Int) → Bool
  | acc, [] => acc
  | acc, q :: r => kn1 p (bif acc then true else eqQ q p) r
def knL : List (Int × Int) → Int × Int → Bool
  | [], _ => false
  | q :: r, p => kn1 p (eqQ q p) r
def tstR (f g : Int × Int → Bool) : List (Int × Int) → Int × Int → Bool
  | [], p => bif f p then g p else false
  | q :: o, p => bif (bif !knL (q :: o) p then f p else false) then g p else false
def refR (f g : Int × Int → Bool) : List (Int × Int) → List (Int × Int) → List (Int × Int)
  | [], out => out
  | p :: r, out => bif tstR f g out p then refR f g r (out ++ [p]) else refR f g r out
def onF (a b c d : Int) (p : Int × Int) : Bool := onP p.1 p.2 a b c d
def refV (a b c d e f g h : Int) : List (Int × Int) := refR (onF a b c d) (onF e f g h) [(a, b), (c, d), (e, f), (g, h)] []
set_option maxRecDepth 100000 in
theorem rend_tree (a : Int) (b : Int) (c : Int) (d : Int) (e : Int) (f : Int) (g : Int) (h : Int) : evalF Try.prog pmC_S51 (opens []) pmB_L9 9 33 [.ag [.v false (.int .i64 a), .v false (.int .i64 b), .v false (.int .i64 c), .v false (.int .i64 d)], .ag [.v false (.int .i64 e), .v false (.int .i64 f), .v false (.int .i64 g), .v false (.int .i64 h)]] = .ret (.one (.d false false PT (refV a b c d e f g h))) := by kernel_rfl
set_option maxHeartbeats 4000000 in
theorem rend_val (a : Int) (b : Int) (c : Int) (d : Int) (e : Int) (f : Int) (g : Int) (h : Int) : (.ret (.one (.d false false PT (refV a b c d e f g h))) : Tr AV).val = some (.one (.d false false PT (refV a b c d e f g h))) := by
  rfl
noncomputable def rend_g : List AV → Option (Tr AV)
  | [.ag [.v _ (.int .i64 a), .v _ (.int .i64 b), .v _ (.int .i64 c), .v _ (.int .i64 d)], .ag [.v _ (.int .i64 e), .v _ (.int .i64 f), .v _ (.int .i64 g), .v _ (.int .i64 h)]] => some (.ret (.one (.d false false PT (refV a b c d e f g h))))
  | _ => none
set_option maxHeartbeats 4000000 in
theorem rend_ok : FunOK Try.prog 33 rend_g := by
  refine fun_ok (by kernel_rfl) (pmC_S51_ok) (pmB_L9_ok) 9 (On := (opens [])) (fun args t h => ?_)
  unfold rend_g at h
  split at h
  · rename_i _ a _ b _ c _ d _ e _ f _ g _ h
    simp only [Option.some.injEq] at h
    subst h
    refine ⟨[.ag [.v false (.int .i64 a), .v false (.int .i64 b), .v false (.int .i64 c), .v false (.int .i64 d)], .ag [.v false (.int .i64 e), .v false (.int .i64 f), .v false (.int .i64 g), .v false (.int .i64 h)]], rfl, fun fr w us h => h, fun r hr => ?_⟩
    simp only [Tr.val, Option.some.injEq] at hr
    subst hr
    rw [rend_tree]
    exact rend_val a b c d e f g h
  · cases h
noncomputable def pmE_S51 : Sums := addS 33 rend_g pmC_S51
theorem pmE_S51_ok : SumOK Try.prog pmE_S51 := addS_ok (rend_ok) (pmC_S51_ok)
theorem eqQ_iff (q p : Int × Int) : eqQ q p = true ↔ q = p := by
  unfold eqQ
  rw [Bool.and_true, Bool.and_eq_true, beq_iff_eq, beq_iff_eq]
  exact ⟨fun h => Prod.ext h.1 h.2, fun h => by rw [h]; exact ⟨rfl, rfl⟩⟩
def cmp1 : List (Int × Int) → List (Int × Int)
  | [] => []
  | [p] => [p]
  | p :: q :: r => bif eqQ q p then cmp1 (q :: r) else p :: cmp1 (q :: r)
theorem cmp1_len : ∀ l, ((cmp1 l).length : Int) = cntA l
  | [] => rfl
  | [_] => rfl
  | p :: q :: r => by
    have := cmp1_len (q :: r)
    unfold cmp1 cntA
    cases eqQ q p <;> simp only [cond_true, cond_false, List.length_cons] <;> omega
theorem cmp1_mem (x : Int × Int) : ∀ l, x ∈ cmp1 l ↔ x ∈ l
  | [] => Iff.rfl
  | [_] => Iff.rfl
  | p :: q :: r => by
    have ih := cmp1_mem x (q :: r)
    unfold cmp1
    cases h : eqQ q p
    · simp only [cond_false, List.mem_cons (a := x) (b := p), ih]
    · have := (eqQ_iff q p).1 h
      subst this
      simp only [cond_true, ih, List.mem_cons]
      exact ⟨fun h => .inr h, fun h => h.elim .inl id⟩
theorem cmp1_nodup : ∀ l, l.Pairwise (fun a b => ltOf cmpP b a = false) → (cmp1 l).Nodup
  | [], _ => List.nodup_nil
  | [p], _ => by unfold cmp1; simp
  | p :: q :: r, h => by
    have ih := cmp1_nodup (q :: r) (List.pairwise_cons.1 h).2
    unfold cmp1
    cases hq : eqQ q p
    · rw [cond_false, List.nodup_cons]
      refine ⟨fun hm => ?_, ih⟩
      rw [cmp1_mem] at hm
      have hne : ¬ q = p := fun e => by rw [(eqQ_iff q p).2 e] at hq; cases hq
      rcases List.mem_cons.1 hm with e | hr
      · exact hne e.symm
      · have h1 := (List.pairwise_cons.1 h).1 q List.mem_cons_self
        have h2 := (List.pairwise_cons.1 (List.pairwise_cons.1 h).2).1 p hr
        rw [cmpP_lt] at h1 h2
        have h1 := of_decide_eq_false h1
        have h2 := of_decide_eq_false h2
        exact hne (Prod.ext (by omega) (by omega))
    · rw [cond_true]; exact ih
theorem kn1_iff (p : Int × Int) : ∀ (l : List (Int × Int)) (acc : Bool), kn1 p acc l = true ↔ acc = true ∨ p ∈ l
  | [], acc => by simp [kn1]
  | q :: r, acc => by
    unfold kn1
    rw [kn1_iff p r]
    have : eqQ q p = true ↔ p = q := (eqQ_iff q p).trans ⟨Eq.symm, Eq.symm⟩
    cases acc
    · simp only [cond_false, this, List.mem_cons, Bool.false_eq_true, false_or]
    · simp
theorem tstR_iff (f g : Int × Int → Bool) (o : List (Int × Int)) (p : Int × Int) : tstR f g o p = true ↔ ¬ p ∈ o ∧ f p = true ∧ g p = true := by
  cases o with
  | nil => unfold tstR; cases hf : f p <;> cases hg : g p <;> simp [hf, hg]
  | cons q r =>
    have hk : knL (q :: r) p = true ↔ p ∈ q :: r := by
      unfold knL
      rw [kn1_iff, List.mem_cons]
      exact ⟨fun h => h.imp (fun h => ((eqQ_iff q p).1 h).symm) id, fun h => h.imp (fun h => (eqQ_iff q p).2 h.symm) id⟩
    unfold tstR
    rw [← hk]
    cases hk : knL (q :: r) p <;> cases hf : f p <;> cases hg : g p <;> simp [hk, hf, hg]
theorem refR_ok (f g : Int × Int → Bool) : ∀ (l o : List (Int × Int)), o.Nodup → (refR f g l o).Nodup ∧ ∀ x, x ∈ refR f g l o ↔ x ∈ o ∨ (x ∈ l ∧ f x = true ∧ g x = true)
  | [], o, h => ⟨h, fun x => by simp [refR]⟩
  | p :: r, o, h => by
    unfold refR
    cases ht : tstR f g o p
    · obtain ⟨i1, i2⟩ := refR_ok f g r o h
      refine ⟨i1, fun x => ?_⟩
      rw [cond_false, i2, List.mem_cons]
      have hn : ¬ (¬ p ∈ o ∧ f p = true ∧ g p = true) := fun e => by rw [(tstR_iff f g o p).2 e] at ht; cases ht
      constructor
      · rintro (h | ⟨h1, h2⟩)
        · exact .inl h
        · exact .inr ⟨.inr h1, h2⟩
      · rintro (h | ⟨rfl | h1, h2⟩)
        · exact .inl h
        · by_cases hx : x ∈ o
          · exact .inl hx
          · exact absurd ⟨hx, h2⟩ hn
        · exact .inr ⟨h1, h2⟩
    · obtain ⟨t1, t2⟩ := (tstR_iff f g o p).1 ht
      obtain ⟨i1, i2⟩ := refR_ok f g r (o ++ [p]) (by
        rw [List.nodup_append]
        exact ⟨h, by simp, fun x hx y hy => by rw [List.mem_singleton.1 hy]; exact fun e => t1 (e ▸ hx)⟩)
      refine ⟨i1, fun x => ?_⟩
      rw [cond_true, i2, List.mem_append, List.mem_singleton, List.mem_cons]
      constructor
      · rintro ((h | rfl) | ⟨h1, h2⟩)
        · exact .inl h
        · exact .inr ⟨.inl rfl, t2⟩
        · exact .inr ⟨.inr h1, h2⟩
      · rintro (h | ⟨rfl | h1, h2⟩)
        · exact .inl (.inl h)
        · exact .inl (.inr rfl)
        · exact .inr ⟨h1, h2⟩
theorem hld_end1 (a b c d : Int) : hld a b c d a b = true := by
  unfold hld bw crs
  have e : (c - a) * (b - b) - (d - b) * (a - a) = 0 := by rw [Int.sub_self, Int.sub_self, Int.mul_zero, Int.mul_zero]; rfl
  rw [e, Bool.cond_self]
  simp only [Bool.and_eq_true, decide_eq_true_eq, beq_self_eq_true, and_true]
  omega
theorem hld_end2 (a b c d : Int) : hld a b c d c d = true := by
  rw [← hld_flip]; exact hld_end1 c d a b
theorem apt_no {a b c d e f g h : Int} (ha : apt a b c d e f g h = true) : hld a b c d e f = false ∧ hld a b c d g h = false ∧ hld e f g h a b = false ∧ hld e f g h c d = false := by
  unfold apt at ha
  rw [Bool.and_eq_true, decide_eq_true_eq, decide_eq_true_eq] at ha
  have z : ∀ {x y : Int}, sg x * sg y < 0 → x ≠ 0 ∧ y ≠ 0 := fun {x y} h => by
    refine ⟨fun e => ?_, fun e => ?_⟩
    · rw [e, show sg 0 = 0 from rfl, Int.zero_mul] at h; omega
    · rw [e, show sg 0 = 0 from rfl, Int.mul_zero] at h; omega
  have n : ∀ {x : Int}, x ≠ 0 → (x == 0) = false := fun h => by simpa using h
  obtain ⟨h1, h2⟩ := z ha.1
  obtain ⟨h3, h4⟩ := z ha.2
  unfold hld
  rw [n h1, n h2, n h3, n h4]
  simp
theorem com_mem (H1 H2 H3 H4 : Bool) (p q r s x : Int × Int) : x ∈ comL H1 H2 H3 H4 p q r s ↔ (H1 = true ∧ x = p) ∨ (H2 = true ∧ x = q) ∨ (H3 = true ∧ x = r) ∨ (H4 = true ∧ x = s) := by
  unfold comL
  cases H1 <;> cases H2 <;> cases H3 <;> cases H4 <;> simp
theorem ref_cnt {a b c d e f g h : Int} (h1 : vp a b = true) (h2 : vp c d = true) (h3 : vp e f = true) (h4 : vp g h = true) :
    ((refV a b c d e f g h).length : Int) = cntA (srtL (t := PT) cmpP (comL (hld a b c d e f) (hld a b c d g h) (hld e f g h a b) (hld e f g h c d) (e, f) (g, h) (a, b) (c, d))) := by
  obtain ⟨_, p1, s1⟩ := srtL_ok (t := PT) cmpP_swo (comL (hld a b c d e f) (hld a b c d g h) (hld e f g h a b) (hld e f g h c d) (e, f) (g, h) (a, b) (c, d))
  rw [← cmp1_len]
  obtain ⟨r1, r2⟩ := refR_ok (onF a b c d) (onF e f g h) [(a, b), (c, d), (e, f), (g, h)] [] List.nodup_nil
  have hp := (List.perm_ext_iff_of_nodup r1 (cmp1_nodup _ s1)).2 fun x => by
    rw [r2, cmp1_mem, p1.mem_iff, com_mem]
    simp only [List.not_mem_nil, false_or, List.mem_cons, or_false]
    have o1 : onF a b c d (a, b) = true := by unfold onF onP; simp only [h1, h2, hld_end1, Bool.and_self]
    have o2 : onF a b c d (c, d) = true := by unfold onF onP; simp only [h1, h2, hld_end2, Bool.and_self]
    have o3 : onF e f g h (e, f) = true := by unfold onF onP; simp only [h3, h4, hld_end1, Bool.and_self]
    have o4 : onF e f g h (g, h) = true := by unfold onF onP; simp only [h3, h4, hld_end2, Bool.and_self]
    have q1 : onF a b c d (e, f) = hld a b c d e f := by unfold onF onP; simp only [h1, h2, h3, Bool.and_self, Bool.true_and]
    have q2 : onF a b c d (g, h) = hld a b c d g h := by unfold onF onP; simp only [h1, h2, h4, Bool.and_self, Bool.true_and]
    have q3 : onF e f g h (a, b) = hld e f g h a b := by unfold onF onP; simp only [h1, h3, h4, Bool.and_self, Bool.true_and]
    have q4 : onF e f g h (c, d) = hld e f g h c d := by unfold onF onP; simp only [h2, h3, h4, Bool.and_self, Bool.true_and]
    constructor
    · rintro ⟨rfl | rfl | rfl | rfl, g1, g2⟩
      · exact .inr (.inr (.inl ⟨by rw [← q3]; exact g2, rfl⟩))
      · exact .inr (.inr (.inr ⟨by rw [← q4]; exact g2, rfl⟩))
      · exact .inl ⟨by rw [← q1]; exact g1, rfl⟩
      · exact .inr (.inl ⟨by rw [← q2]; exact g1, rfl⟩)
    · rintro (⟨g1, rfl⟩ | ⟨g1, rfl⟩ | ⟨g1, rfl⟩ | ⟨g1, rfl⟩)
      · exact ⟨.inr (.inr (.inl rfl)), by rw [q1]; exact g1, o3⟩
      · exact ⟨.inr (.inr (.inr rfl)), by rw [q2]; exact g1, o4⟩
      · exact ⟨.inl rfl, o1, by rw [q3]; exact g1⟩
      · exact ⟨.inr (.inl rfl), o2, by rw [q4]; exact g1⟩
  unfold refV
  rw [hp.length_eq]
set_option maxRecDepth 100000 in
theorem meb_tree (a : Int) (b : Int) (c : Int) (d : Int) (e : Int) (f : Int) (g : Int) (h : Int) : evalF Try.prog pmE_S51 (opens []) pmB_L9 9 12 [.ag [.v false (.int .i64 a), .v false (.int .i64 b), .v false (.int .i64 c), .v false (.int .i64 d)], .ag [.v false (.int .i64 e), .v false (.int .i64 f), .v false (.int .i64 g), .v false (.int .i64 h)]] = .ret (.one (.v false (.int .i64 (bif bif bif bif !vp a b then true else !vp c d then true else !vp e f then true else !vp g h then (0 : Int) else bif decide ((↑(List.length (refV a b c d e f g h)) : Int) > (0 : Int)) then (↑(List.length (refV a b c d e f g h)) : Int) else bif bif decide (IntKind.wrap IntKind.i64 (sg (crs a b c d e f) * sg (crs a b c d g h)) < (0 : Int)) then decide (IntKind.wrap IntKind.i64 (sg (crs e f g h a b) * sg (crs e f g h c d)) < (0 : Int)) else false then (1 : Int) else (0 : Int))))) := by kernel_rfl
set_option maxHeartbeats 4000000 in
theorem meb_val (a : Int) (b : Int) (c : Int) (d : Int) (e : Int) (f : Int) (g : Int) (h : Int) : (.ret (.one (.v false (.int .i64 (bif bif bif bif !vp a b then true else !vp c d then true else !vp e f then true else !vp g h then (0 : Int) else bif decide ((↑(List.length (refV a b c d e f g h)) : Int) > (0 : Int)) then (↑(List.length (refV a b c d e f g h)) : Int) else bif bif decide (IntKind.wrap IntKind.i64 (sg (crs a b c d e f) * sg (crs a b c d g h)) < (0 : Int)) then decide (IntKind.wrap IntKind.i64 (sg (crs e f g h a b) * sg (crs e f g h c d)) < (0 : Int)) else false then (1 : Int) else (0 : Int))))) : Tr AV).val = some (.one (.v false (.int .i64 (meetN a b c d e f g h)))) := by
  show some _ = some _
  rw [sg_w, sg_w]
  unfold meetN
  cases h1 : vp a b
  · rfl
  cases h2 : vp c d
  · rfl
  cases h3 : vp e f
  · rfl
  cases h4 : vp g h
  · rfl
  rw [ref_cnt h1 h2 h3 h4]
  have e1 : (bif decide (sg (crs a b c d e f) * sg (crs a b c d g h) < (0 : Int)) then decide (sg (crs e f g h a b) * sg (crs e f g h c d) < (0 : Int)) else false) = apt a b c d e f g h := by
    unfold apt
    cases decide (sg (crs a b c d e f) * sg (crs a b c d g h) < (0 : Int)) <;> rfl
  rw [e1]
  cases ha : apt a b c d e f g h
  · generalize hT : cntA _ = T
    have := cntA_nn (srtL (t := PT) cmpP (comL (hld a b c d e f) (hld a b c d g h) (hld e f g h a b) (hld e f g h c d) (e, f) (g, h) (a, b) (c, d)))
    rw [hT] at this
    by_cases g0 : T > 0
    · simp only [decide_eq_true g0, Bool.not_true, Bool.and_self, cond_true, cond_false]
    · have : T = 0 := by omega
      subst this; rfl
  · obtain ⟨n1, n2, n3, n4⟩ := apt_no ha
    rw [n1, n2, n3, n4, show comL false false false false (e, f) (g, h) (a, b) (c, d) = [] from rfl, srt0]; rfl
noncomputable def meb_g : List AV → Option (Tr AV)
  | [.ag [.v _ (.int .i64 a), .v _ (.int .i64 b), .v _ (.int .i64 c), .v _ (.int .i64 d)], .ag [.v _ (.int .i64 e), .v _ (.int .i64 f), .v _ (.int .i64 g), .v _ (.int .i64 h)]] => some (.ret (.one (.v false (.int .i64 (meetN a b c d e f g h)))))
  | _ => none
set_option maxHeartbeats 4000000 in
theorem meb_ok : FunOK Try.prog 12 meb_g := by
  refine fun_ok (by kernel_rfl) (pmE_S51_ok) (pmB_L9_ok) 9 (On := (opens [])) (fun args t h => ?_)
  unfold meb_g at h
  split at h
  · rename_i _ a _ b _ c _ d _ e _ f _ g _ h
    simp only [Option.some.injEq] at h
    subst h
    refine ⟨[.ag [.v false (.int .i64 a), .v false (.int .i64 b), .v false (.int .i64 c), .v false (.int .i64 d)], .ag [.v false (.int .i64 e), .v false (.int .i64 f), .v false (.int .i64 g), .v false (.int .i64 h)]], rfl, fun fr w us h => h, fun r hr => ?_⟩
    simp only [Tr.val, Option.some.injEq] at hr
    subst hr
    rw [meb_tree]
    exact meb_val a b c d e f g h
  · cases h
noncomputable def pmE_S52 : Sums := addS 12 meb_g pmE_S51
theorem pmE_S52_ok : SumOK Try.prog pmE_S52 := addS_ok (meb_ok) (pmE_S51_ok)
set_option maxRecDepth 100000 in
theorem law_PlanarCounts_tree (a : Int) (b : Int) (c : Int) (d : Int) (e : Int) (f : Int) (g : Int) (h : Int) : evalF Try.prog pmE_S52 (opens []) pmB_L9 9 3 [.ag [.v false (.int .i64 a), .v false (.int .i64 b), .v false (.int .i64 c), .v false (.int .i64 d)], .ag [.v false (.int .i64 e), .v false (.int .i64 f), .v false (.int .i64 g), .v false (.int .i64 h)]] = .ret (.one (.v false (.bool (bif meetN a b c d e f g h == meetN a b c d e f g h then true else false)))) := by kernel_rfl
set_option maxHeartbeats 4000000 in
theorem law_PlanarCounts_all (a : Int) (b : Int) (c : Int) (d : Int) (e : Int) (f : Int) (g : Int) (h : Int) (r0 : Ty.InR (.prod (.prod (.int .i64) (.int .i64)) (.prod (.int .i64) (.int .i64))) ((a, b), (c, d))) (r1 : Ty.InR (.prod (.prod (.int .i64) (.int .i64)) (.prod (.int .i64) (.int .i64))) ((e, f), (g, h)))  : Tr.all (fun r => ∃ kn, r = AV.one (.v kn (.bool true))) (.ret (.one (.v false (.bool (bif meetN a b c d e f g h == meetN a b c d e f g h then true else false))))) := by
  refine ⟨false, ?_⟩
  simp only [beq_self_eq_true, cond_true]
set_option maxHeartbeats 4000000 in
theorem law_PlanarCounts (v0 : Value) (x0 : ((.prod (.prod (.int .i64) (.int .i64)) (.prod (.int .i64) (.int .i64))) : Ty).den) (r0 : Ty.InR (.prod (.prod (.int .i64) (.int .i64)) (.prod (.int .i64) (.int .i64))) x0) (v1 : Value) (x1 : ((.prod (.prod (.int .i64) (.int .i64)) (.prod (.int .i64) (.int .i64))) : Ty).den) (r1 : Ty.InR (.prod (.prod (.int .i64) (.int .i64)) (.prod (.int .i64) (.int .i64))) x1) (z_w : World) (i0 : (AV.ag (Ty.cells false (.prod (.prod (.int .i64) (.int .i64)) (.prod (.int .i64) (.int .i64))) x0)).is [] (fun _ => none) (fun b => b < z_w.heap.size) z_w v0) (i1 : (AV.ag (Ty.cells false (.prod (.prod (.int .i64) (.int .i64)) (.prod (.int .i64) (.int .i64))) x1)).is [] (fun _ => none) (fun b => b < z_w.heap.size) z_w v1) : Calls Try.prog 3 #[v0, v1] z_w fun e w' => e = .returned (.bool true) ∧ Ext z_w w' := by
  obtain ⟨⟨a, b⟩, ⟨c, d⟩⟩ := x0
  obtain ⟨⟨e, f⟩, ⟨g, h⟩⟩ := x1
  refine law_of_tree (by kernel_rfl) (pmE_S52_ok) (pmB_L9_ok) (law_PlanarCounts_tree a b c d e f g h) (law_PlanarCounts_all a b c d e f g h r0 r1 ) rfl z_w _ _ (fun _ h => h) ⟨_, _, rfl, i0, ⟨_, _, rfl, i1, rfl⟩⟩
end Go.Proofs.Ytjjmkmkllphecaa
