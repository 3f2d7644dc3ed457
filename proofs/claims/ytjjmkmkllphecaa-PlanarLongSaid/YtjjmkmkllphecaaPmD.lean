/-
  Layer 5: PlanarMeets, PlanarSymmetry.
-/
import Derived.Test.YtjjmkmkllphecaaProg
import Derived.Test.YtjjmkmkllphecaaFvX
import Derived.Test.YtjjmkmkllphecaaFvZ
import Derived.Test.YtjjmkmkllphecaaAut
import Derived.Test.YtjjmkmkllphecaaRd
import Derived.Test.YtjjmkmkllphecaaPl
import Derived.Test.YtjjmkmkllphecaaShelf
import Derived.Test.YtjjmkmkllphecaaScn
import Derived.Test.YtjjmkmkllphecaaSrt
import Derived.Test.YtjjmkmkllphecaaFrs
import Derived.Test.YtjjmkmkllphecaaPmA
import Derived.Test.YtjjmkmkllphecaaPmB
import Derived.Test.YtjjmkmkllphecaaPmC
namespace Go.Proofs.Ytjjmkmkllphecaa
open Go
theorem cntA_nn : ∀ l, 0 ≤ cntA l
  | [] => by simp [cntA]
  | [_] => by simp [cntA]
  | p :: q :: r => by
    have := cntA_nn (q :: r)
    unfold cntA
    cases eqQ q p <;> simp only [cond_true, cond_false] <;> omega
theorem cntA_pos : ∀ l, l ≠ [] → 0 < cntA l
  | [], h => absurd rfl h
  | [_], _ => by simp [cntA]
  | p :: q :: r, _ => by
    have := cntA_pos (q :: r) (by simp)
    unfold cntA
    cases eqQ q p <;> simp only [cond_true, cond_false] <;> omega
theorem cnt_srt (l : List (Int × Int)) : decide (cntA (srtL (t := PT) cmpP l) > 0) = !l.isEmpty := by
  have hl := (srtL_ok (t := PT) cmpP_swo l).1
  cases l with
  | nil => rw [srt0]; rfl
  | cons p r =>
    have : srtL (t := PT) cmpP (p :: r) ≠ [] := fun e => by rw [e] at hl; simp at hl
    exact decide_eq_true (cntA_pos _ this)
theorem comL_empty (H1 H2 H3 H4 : Bool) (p q r s : Int × Int) : (comL H1 H2 H3 H4 p q r s).isEmpty = !(H1 || (H2 || (H3 || H4))) := by
  cases H1 <;> cases H2 <;> cases H3 <;> cases H4 <;> rfl
theorem srt_perm {l l' : List (Int × Int)} (h : l.Perm l') : srtL (t := PT) cmpP l = srtL (t := PT) cmpP l' := by
  obtain ⟨_, p1, s1⟩ := srtL_ok (t := PT) cmpP_swo l
  obtain ⟨_, p2, s2⟩ := srtL_ok (t := PT) cmpP_swo l'
  refine List.Perm.eq_of_pairwise (le := fun a b => ltOf cmpP b a = false) (fun a b _ _ h1 h2 => ?_) s1 s2 ((p1.trans h).trans p2.symm)
  rw [cmpP_lt] at h1 h2
  have h1 := of_decide_eq_false h1
  have h2 := of_decide_eq_false h2
  exact Prod.ext (by omega) (by omega)
theorem com_swap (H1 H2 H3 H4 : Bool) (p q r s : Int × Int) : (comL H3 H4 H1 H2 r s p q).Perm (comL H1 H2 H3 H4 p q r s) := by
  unfold comL
  rw [← List.append_assoc, ← List.append_assoc (bif H1 then [p] else [])]
  exact List.perm_append_comm
theorem com_flip (H1 H2 H3 H4 : Bool) (p q r s : Int × Int) : (comL H2 H1 H3 H4 q p r s).Perm (comL H1 H2 H3 H4 p q r s) := by
  unfold comL
  rw [← List.append_assoc, ← List.append_assoc (bif H1 then [p] else [])]
  exact List.perm_append_comm.append_right _
theorem crs_neg (a b c d e f : Int) : crs c d a b e f = - crs a b c d e f := by
  unfold crs
  cases vp a b <;> cases vp c d <;> cases vp e f <;> simp only [Bool.and_self, Bool.and_true, Bool.and_false, Bool.true_and, Bool.false_and, cond_true, cond_false, Int.neg_zero]
  simp only [Int.sub_mul, Int.mul_sub]
  have e1 := Int.mul_comm a f; have e2 := Int.mul_comm c f; have e3 := Int.mul_comm a d; have e4 := Int.mul_comm c b; have e5 := Int.mul_comm b e; have e6 := Int.mul_comm d e; have e7 := Int.mul_comm a b; have e8 := Int.mul_comm c d
  omega
theorem crs_cyc (a b c d e f : Int) : crs c d e f a b = crs a b c d e f := by
  unfold crs
  cases vp a b <;> cases vp c d <;> cases vp e f <;> simp only [Bool.and_self, Bool.and_true, Bool.and_false, Bool.true_and, Bool.false_and, cond_true, cond_false]
  simp only [Int.sub_mul, Int.mul_sub]
  have e1 := Int.mul_comm a f; have e2 := Int.mul_comm c f; have e3 := Int.mul_comm a d; have e4 := Int.mul_comm c b; have e5 := Int.mul_comm b e; have e6 := Int.mul_comm d e; have e7 := Int.mul_comm a b; have e8 := Int.mul_comm c d; have e9 := Int.mul_comm e f
  omega
theorem crs_in (a b c d e f : Int) : -4503599627370496 ≤ crs a b c d e f ∧ crs a b c d e f ≤ 4503599627370496 := by
  unfold crs
  cases h1 : vp a b
  · simp
  cases h2 : vp c d
  · simp
  cases h3 : vp e f
  · simp
  simp only [Bool.and_self, cond_true]
  obtain ⟨_, _, _, _⟩ := vp_b h1
  obtain ⟨_, _, _, _⟩ := vp_b h2
  obtain ⟨_, _, _, _⟩ := vp_b h3
  obtain ⟨m1, m2⟩ := mul_in (a := c - a) (b := f - b) (k := 33554432) (m := 33554432) (by omega) (by omega) (by omega) (by omega)
  obtain ⟨m3, m4⟩ := mul_in (a := d - b) (b := e - a) (k := 33554432) (m := 33554432) (by omega) (by omega) (by omega) (by omega)
  omega
theorem sg_neg (x : Int) : sg (-x) = - sg x := by
  unfold sg
  by_cases h1 : x > 0
  · have h2 : ¬ (-x > 0) := by omega
    have h3 : -x < 0 := by omega
    simp only [h1, h2, h3, decide_true, decide_false, cond_true, cond_false]
  · by_cases h2 : x < 0
    · have h3 : -x > 0 := by omega
      simp only [h1, h2, h3, decide_true, decide_false, cond_true, cond_false]; rfl
    · have h3 : x = 0 := by omega
      subst h3; rfl
theorem dst_comm (a b c d : Int) : dst a b c d = dst c d a b := by
  unfold dst
  have e1 : a - c = -(c - a) := by omega
  have e2 : b - d = -(d - b) := by omega
  rw [e1, e2, Int.neg_mul_neg, Int.neg_mul_neg, Bool.and_comm]
theorem bw_comm (a c e : Int) : bw a c e = bw c a e := by
  unfold bw
  rw [Int.min_comm, Int.max_comm]
theorem hld_flip (a b c d e f : Int) : hld c d a b e f = hld a b c d e f := by
  unfold hld
  rw [bw_comm c a, bw_comm d b, crs_neg]
  have : (-crs a b c d e f == 0) = (crs a b c d e f == 0) := by
    rw [Bool.eq_iff_iff, beq_iff_eq, beq_iff_eq]; omega
  rw [this]
theorem meet_swap (a b c d e f g h : Int) : meetN e f g h a b c d = meetN a b c d e f g h := by
  unfold meetN
  rw [srt_perm (com_swap (hld a b c d e f) (hld a b c d g h) (hld e f g h a b) (hld e f g h c d) (e, f) (g, h) (a, b) (c, d))]
  have e1 : apt e f g h a b c d = apt a b c d e f g h := by unfold apt; rw [Bool.and_comm]
  have e2 : (vp e f && (vp g h && (vp a b && vp c d))) = (vp a b && (vp c d && (vp e f && vp g h))) := by
    cases vp a b <;> cases vp c d <;> cases vp e f <;> cases vp g h <;> rfl
  rw [e1, e2]
theorem meet_flip (a b c d e f g h : Int) : meetN a b c d g h e f = meetN a b c d e f g h := by
  unfold meetN
  rw [hld_flip e f g h a b, hld_flip e f g h c d, srt_perm (com_flip (hld a b c d e f) (hld a b c d g h) (hld e f g h a b) (hld e f g h c d) (e, f) (g, h) (a, b) (c, d))]
  have e1 : apt a b c d g h e f = apt a b c d e f g h := by
    unfold apt
    rw [crs_neg e f g h a b, crs_neg e f g h c d, sg_neg, sg_neg, Int.neg_mul_neg, Int.mul_comm (sg (crs a b c d g h))]
  have e2 : (vp a b && (vp c d && (vp g h && vp e f))) = (vp a b && (vp c d && (vp e f && vp g h))) := by
    rw [Bool.and_comm (vp g h)]
  rw [e1, e2]
set_option maxRecDepth 100000 in
theorem law_PlanarSymmetry_tree (a : Int) (b : Int) (c : Int) (d : Int) (e : Int) (f : Int) (g : Int) (h : Int) : evalF Try.prog pmC_S51 (opens []) pmB_L9 9 5 [.ag [.v false (.int .i64 a), .v false (.int .i64 b), .v false (.int .i64 c), .v false (.int .i64 d)], .ag [.v false (.int .i64 e), .v false (.int .i64 f), .v false (.int .i64 g), .v false (.int .i64 h)]] = .ret (.one (.v false (.bool (bif bif bif bif bif bif crs c d e f a b == crs a b c d e f then crs c d a b e f == IntKind.wrap IntKind.i64 ((0 : Int) - crs a b c d e f) else false then meetN e f g h a b c d == meetN a b c d e f g h else false then meetN a b c d g h e f == meetN a b c d e f g h else false then meetN g h e f a b c d == meetN a b c d e f g h else false then dst a b c d == dst c d a b else false then true else false)))) := by kernel_rfl
set_option maxHeartbeats 4000000 in
theorem law_PlanarSymmetry_all (a : Int) (b : Int) (c : Int) (d : Int) (e : Int) (f : Int) (g : Int) (h : Int) (r0 : Ty.InR (.prod (.prod (.int .i64) (.int .i64)) (.prod (.int .i64) (.int .i64))) ((a, b), (c, d))) (r1 : Ty.InR (.prod (.prod (.int .i64) (.int .i64)) (.prod (.int .i64) (.int .i64))) ((e, f), (g, h)))  : Tr.all (fun r => ∃ kn, r = AV.one (.v kn (.bool true))) (.ret (.one (.v false (.bool (bif bif bif bif bif bif crs c d e f a b == crs a b c d e f then crs c d a b e f == IntKind.wrap IntKind.i64 ((0 : Int) - crs a b c d e f) else false then meetN e f g h a b c d == meetN a b c d e f g h else false then meetN a b c d g h e f == meetN a b c d e f g h else false then meetN g h e f a b c d == meetN a b c d e f g h else false then dst a b c d == dst c d a b else false then true else false))))) := by
  refine ⟨false, ?_⟩
  obtain ⟨c1, c2⟩ := crs_in a b c d e f
  rw [meet_swap a b c d g h e f, meet_flip a b c d e f g h, meet_swap a b c d e f g h, crs_cyc, crs_neg a b c d e f, wid (x := 0 - crs a b c d e f) (by omega) (by omega), Int.zero_sub, dst_comm a b c d]
  simp only [beq_self_eq_true, cond_true]
set_option maxHeartbeats 4000000 in
theorem law_PlanarSymmetry (v0 : Value) (x0 : ((.prod (.prod (.int .i64) (.int .i64)) (.prod (.int .i64) (.int .i64))) : Ty).den) (r0 : Ty.InR (.prod (.prod (.int .i64) (.int .i64)) (.prod (.int .i64) (.int .i64))) x0) (v1 : Value) (x1 : ((.prod (.prod (.int .i64) (.int .i64)) (.prod (.int .i64) (.int .i64))) : Ty).den) (r1 : Ty.InR (.prod (.prod (.int .i64) (.int .i64)) (.prod (.int .i64) (.int .i64))) x1) (z_w : World) (i0 : (AV.ag (Ty.cells false (.prod (.prod (.int .i64) (.int .i64)) (.prod (.int .i64) (.int .i64))) x0)).is [] (fun _ => none) (fun b => b < z_w.heap.size) z_w v0) (i1 : (AV.ag (Ty.cells false (.prod (.prod (.int .i64) (.int .i64)) (.prod (.int .i64) (.int .i64))) x1)).is [] (fun _ => none) (fun b => b < z_w.heap.size) z_w v1) : Calls Try.prog 5 #[v0, v1] z_w fun e w' => e = .returned (.bool true) ∧ Ext z_w w' := by
  obtain ⟨⟨a, b⟩, ⟨c, d⟩⟩ := x0
  obtain ⟨⟨e, f⟩, ⟨g, h⟩⟩ := x1
  refine law_of_tree (by kernel_rfl) (pmC_S51_ok) (pmB_L9_ok) (law_PlanarSymmetry_tree a b c d e f g h) (law_PlanarSymmetry_all a b c d e f g h r0 r1 ) rfl z_w _ _ (fun _ h => h) ⟨_, _, rfl, i0, ⟨_, _, rfl, i1, rfl⟩⟩
set_option maxRecDepth 100000 in
theorem law_PlanarMeets_tree (a : Int) (b : Int) (c : Int) (d : Int) (e : Int) (f : Int) (g : Int) (h : Int) : evalF Try.prog pmC_S51 (opens []) pmB_L9 9 4 [.ag [.v false (.int .i64 a), .v false (.int .i64 b), .v false (.int .i64 c), .v false (.int .i64 d)], .ag [.v false (.int .i64 e), .v false (.int .i64 f), .v false (.int .i64 g), .v false (.int .i64 h)]] = .ret (.one (.v false (.bool (bif bif !bif vp a b then vp c d else false then true else !bif vp e f then vp g h else false then bif meetN a b c d e f g h == (0 : Int) then true else false else bif decide (meetN a b c d e f g h > (0 : Int)) == bif bif bif bif onP a b e f g h then true else onP c d e f g h then true else onP e f a b c d then true else onP g h a b c d then true else bif decide (IntKind.wrap IntKind.i64 (sg (crs a b c d e f) * sg (crs a b c d g h)) < (0 : Int)) then decide (IntKind.wrap IntKind.i64 (sg (crs e f g h a b) * sg (crs e f g h c d)) < (0 : Int)) else false then true else false)))) := by kernel_rfl
set_option maxHeartbeats 4000000 in
theorem law_PlanarMeets_all (a : Int) (b : Int) (c : Int) (d : Int) (e : Int) (f : Int) (g : Int) (h : Int) (r0 : Ty.InR (.prod (.prod (.int .i64) (.int .i64)) (.prod (.int .i64) (.int .i64))) ((a, b), (c, d))) (r1 : Ty.InR (.prod (.prod (.int .i64) (.int .i64)) (.prod (.int .i64) (.int .i64))) ((e, f), (g, h)))  : Tr.all (fun r => ∃ kn, r = AV.one (.v kn (.bool true))) (.ret (.one (.v false (.bool (bif bif !bif vp a b then vp c d else false then true else !bif vp e f then vp g h else false then bif meetN a b c d e f g h == (0 : Int) then true else false else bif decide (meetN a b c d e f g h > (0 : Int)) == bif bif bif bif onP a b e f g h then true else onP c d e f g h then true else onP e f a b c d then true else onP g h a b c d then true else bif decide (IntKind.wrap IntKind.i64 (sg (crs a b c d e f) * sg (crs a b c d g h)) < (0 : Int)) then decide (IntKind.wrap IntKind.i64 (sg (crs e f g h a b) * sg (crs e f g h c d)) < (0 : Int)) else false then true else false))))) := by
  refine ⟨false, ?_⟩
  rw [sg_w, sg_w]
  have key : (bif vp a b then vp c d else false) = (vp a b && vp c d) := by cases vp a b <;> rfl
  have key2 : (bif vp e f then vp g h else false) = (vp e f && vp g h) := by cases vp e f <;> rfl
  rw [key, key2]
  unfold meetN onP
  cases h1 : vp a b
  · rfl
  cases h2 : vp c d
  · rfl
  cases h3 : vp e f
  · rfl
  cases h4 : vp g h
  · rfl
  simp only [Bool.and_self, Bool.true_and, Bool.not_true, cond_false, cond_true]
  have e1 : (bif decide (sg (crs a b c d e f) * sg (crs a b c d g h) < (0 : Int)) then decide (sg (crs e f g h a b) * sg (crs e f g h c d) < (0 : Int)) else false) = apt a b c d e f g h := by
    unfold apt
    cases decide (sg (crs a b c d e f) * sg (crs a b c d g h) < (0 : Int)) <;> rfl
  rw [e1]
  cases apt a b c d e f g h
  · simp only [cond_false]
    rw [cnt_srt, comL_empty]
    cases hld a b c d e f <;> cases hld a b c d g h <;> cases hld e f g h a b <;> cases hld e f g h c d <;> rfl
  · simp only [cond_true]
    cases hld a b c d e f <;> cases hld a b c d g h <;> cases hld e f g h a b <;> cases hld e f g h c d <;> rfl
set_option maxHeartbeats 4000000 in
theorem law_PlanarMeets (v0 : Value) (x0 : ((.prod (.prod (.int .i64) (.int .i64)) (.prod (.int .i64) (.int .i64))) : Ty).den) (r0 : Ty.InR (.prod (.prod (.int .i64) (.int .i64)) (.prod (.int .i64) (.int .i64))) x0) (v1 : Value) (x1 : ((.prod (.prod (.int .i64) (.int .i64)) (.prod (.int .i64) (.int .i64))) : Ty).den) (r1 : Ty.InR (.prod (.prod (.int .i64) (.int .i64)) (.prod (.int .i64) (.int .i64))) x1) (z_w : World) (i0 : (AV.ag (Ty.cells false (.prod (.prod (.int .i64) (.int .i64)) (.prod (.int .i64) (.int .i64))) x0)).is [] (fun _ => none) (fun b => b < z_w.heap.size) z_w v0) (i1 : (AV.ag (Ty.cells false (.prod (.prod (.int .i64) (.int .i64)) (.prod (.int .i64) (.int .i64))) x1)).is [] (fun _ => none) (fun b => b < z_w.heap.size) z_w v1) : Calls Try.prog 4 #[v0, v1] z_w fun e w' => e = .returned (.bool true) ∧ Ext z_w w' := by
  obtain ⟨⟨a, b⟩, ⟨c, d⟩⟩ := x0
  obtain ⟨⟨e, f⟩, ⟨g, h⟩⟩ := x1
  refine law_of_tree (by kernel_rfl) (pmC_S51_ok) (pmB_L9_ok) (law_PlanarMeets_tree a b c d e f g h) (law_PlanarMeets_all a b c d e f g h r0 r1 ) rfl z_w _ _ (fun _ h => h) ⟨_, _, rfl, i0, ⟨_, _, rfl, i1, rfl⟩⟩
end Go.Proofs.Ytjjmkmkllphecaa
