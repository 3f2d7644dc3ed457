/-
  Layer 49: ControlRuns.
-/
import Derived.Test.YtbfkddnehdoliaaProg
import Derived.Test.YtbfkddnehdoliaaFvX
import Derived.Test.YtbfkddnehdoliaaFvZ
import Derived.Test.YtbfkddnehdoliaaCrA
namespace Go.Proofs.Ytbfkddnehdoliaa
open Go
abbrev crn_U : Type := (Ty.list (.int .i64)).den × Int × Int × Int × Int × Int × Int × Int × Int × Int × Int
abbrev crn_V : Type := Bool × Int × Int × Int
def crn_St (u : crn_U) (v : crn_V) : Stt := ⟨[.one .junk, .one (.d false false (.int .i64) u.1), .one .junk, .one .junk, .one (.v false (.bool v.1)), .one (.p 4 0), .one (.p 5 0), .one (.v false (.int .i64 v.2.1)), .one .junk, .one .junk, .one .junk, .one .junk, .one .junk, .one .junk, .one .junk, .one .junk, .one .junk, .one .junk, .one .junk, .one .junk, .one .junk, .one .junk, .one .junk, .one .junk, .one .junk, .one .junk, .one .junk, .one .junk, .one .junk, .one .junk, .one .junk, .one .junk, .one .junk, .one .junk, .one .junk, .one .junk, .one .junk, .one .junk, .one .junk, .one .junk, .one .junk, .one .junk, .one .junk, .one .junk, .one .junk, .one .junk, .one .junk, .one .junk, .one .junk], [(5, .cells [.v false (.int .i64 u.2.1), .v false (.int .i64 u.2.2.1), .v false (.int .i64 u.2.2.2.1), .v false (.int .i64 u.2.2.2.2.1), .v false (.int .i64 v.2.2.1), .v false (.int .i64 u.2.2.2.2.2.1)]), (4, .cells [.v false (.int .i64 u.2.2.2.2.2.2.1), .v false (.int .i64 u.2.2.2.2.2.2.2.1), .v false (.int .i64 u.2.2.2.2.2.2.2.2.1), .v false (.int .i64 u.2.2.2.2.2.2.2.2.2.1), .v false (.int .i64 v.2.2.2), .v false (.int .i64 u.2.2.2.2.2.2.2.2.2.2)]), (0, .dead)], 1009⟩
def el_i (l : (Ty.list (Ty.int IntKind.i64)).den) (i : Int) : Int := elm (Ty.int IntKind.i64) l i
def crn_step (u : crn_U) (v : crn_V) : Tr (crn_V ⊕ (Nat × crn_V)) :=
  match u, v with
  | (l, a0, a1, a2, a3, a5, b0, b1, b2, b3, b5), (re, i, a4, b4) => .br (bif decide (i < ↑(List.length l)) then decide (i < (200 : Int)) else false) (.br (decide ((0 : Int) ≤ i) && decide (i < ↑(List.length l))) (.br (decide ((0 : Int) ≤ i) && decide (i < ↑(List.length l))) (.br (true) (.br (bif     match false with     | true => b0 == a0 && (b1 == a1 && (b2 == a2 && (b3 == a3 && (st0 b0 b1 b2 b3 b4 b5 (el_i l i) == st0 a0 a1 a2 a3 a4 a5 (el_i l i) && (b5 == a5 && true)))))     | false => !(b0 == a0 && (b1 == a1 && (b2 == a2 && (b3 == a3 && (st0 b0 b1 b2 b3 b4 b5 (el_i l i) == st0 a0 a1 a2 a3 a4 a5 (el_i l i) && (b5 == a5 && true)))))) then   true else st1 b0 b1 b2 b3 b4 b5 (el_i l i) != st1 a0 a1 a2 a3 a4 a5 (el_i l i)) (.ret (.inr (0, (false, i, st0 a0 a1 a2 a3 a4 a5 (el_i l i), st0 b0 b1 b2 b3 b4 b5 (el_i l i))))) (.ret (.inl (re, IntKind.wrap IntKind.i64 (i + (1 : Int)), st0 a0 a1 a2 a3 a4 a5 (el_i l i), st0 b0 b1 b2 b3 b4 b5 (el_i l i))))) (.bad 900)) (.bad 29)) (.bad 29)) (.ret (.inr (1, (re, i, a4, b4))))
set_option maxRecDepth 100000 in
set_option maxHeartbeats 4000000 in
theorem crn_step_eq : ∀ (u : crn_U) (v : crn_V), (evalC Try.prog (evalB Try.prog crA_S11 (opens []) L0 7).1 (evalB Try.prog crA_S11 (opens []) L0 7).2 (opens []) (L0 3) 100000 (0 :: [0, 1, 0, 1, 1]) (loopOf (bodyOf Try.prog 3) [1, 1, 0, 1, 0]) (crn_St u v) []).bind (finF [0, 2, 3, 8, 9, 10, 11, 12, 13, 14, 15, 16, 17, 18, 19, 20, 21, 22, 23, 24, 25, 26, 27, 28, 29, 30, 31, 32, 33, 34, 35, 36, 37, 38, 39, 40, 41, 42, 43, 44, 45, 46, 47, 48] [] [5, 4, 0] [0] 1009) = (crn_step u v).bind (outA (crn_St u) [.ret, .exit 0]) := by
  rintro ⟨l, a0, a1, a2, a3, a5, b0, b1, b2, b3, b5⟩ ⟨re, i, a4, b4⟩
  kernel_rfl
def crn_rd (b : Bool) (tm : List (Option AV)) (own : Own) : Option (crn_U × crn_V) :=
  match b, tm, own with
  | true, [some (.one (.d false false (.int .i64) l)), some (.one (.v false (.bool re))), some (.one (.p 4 0)), some (.one (.p 5 0)), some (.one (.v false (.int .i64 i)))], [(5, .cells [.v false (.int .i64 a0), .v false (.int .i64 a1), .v false (.int .i64 a2), .v false (.int .i64 a3), .v false (.int .i64 a4), .v false (.int .i64 a5)]), (4, .cells [.v false (.int .i64 b0), .v false (.int .i64 b1), .v false (.int .i64 b2), .v false (.int .i64 b3), .v false (.int .i64 b4), .v false (.int .i64 b5)]), (0, .dead)] => some ((l, a0, a1, a2, a3, a5, b0, b1, b2, b3, b5), (re, i, a4, b4))
  | _, _, _ => none
def crn_can (st : Stt) : Stt := canA [0, 2, 3, 8, 9, 10, 11, 12, 13, 14, 15, 16, 17, 18, 19, 20, 21, 22, 23, 24, 25, 26, 27, 28, 29, 30, 31, 32, 33, 34, 35, 36, 37, 38, 39, 40, 41, 42, 43, 44, 45, 46, 47, 48] [] [5, 4, 0] [0] 1009 st
def crn_cok (st : Stt) : Bool := canAok [0, 2, 3, 8, 9, 10, 11, 12, 13, 14, 15, 16, 17, 18, 19, 20, 21, 22, 23, 24, 25, 26, 27, 28, 29, 30, 31, 32, 33, 34, 35, 36, 37, 38, 39, 40, 41, 42, 43, 44, 45, 46, 47, 48] [] [5, 4, 0] [0] 1009 st
def crn_read (st : Stt) : Option (crn_U × crn_V) := crn_rd (crn_cok st && (staysA [] [5, 4, 0] st.own && juAll [0, 2, 3, 8, 9, 10, 11, 12, 13, 14, 15, 16, 17, 18, 19, 20, 21, 22, 23, 24, 25, 26, 27, 28, 29, 30, 31, 32, 33, 34, 35, 36, 37, 38, 39, 40, 41, 42, 43, 44, 45, 46, 47, 48] (crn_can st).tm 49)) [(crn_can st).tm[1]?, (crn_can st).tm[4]?, (crn_can st).tm[5]?, (crn_can st).tm[6]?, (crn_can st).tm[7]?] (crn_can st).own
set_option maxRecDepth 100000 in
set_option maxHeartbeats 4000000 in
theorem crn_rd_ok {b : Bool} {tm : List AV} {own : Own} {u : crn_U} {v : crn_V} (hj : b = true → juAll [0, 2, 3, 8, 9, 10, 11, 12, 13, 14, 15, 16, 17, 18, 19, 20, 21, 22, 23, 24, 25, 26, 27, 28, 29, 30, 31, 32, 33, 34, 35, 36, 37, 38, 39, 40, 41, 42, 43, 44, 45, 46, 47, 48] tm 49 = true) (h : crn_rd b [tm[1]?, tm[4]?, tm[5]?, tm[6]?, tm[7]?] own = some (u, v)) : b = true ∧ tm = (crn_St u v).tm ∧ own = (crn_St u v).own := by
  unfold crn_rd at h
  split at h
  · rename_i l re i a0 a1 a2 a3 a4 a5 b0 b1 b2 b3 b4 b5 ht
    simp only [List.cons.injEq, and_true] at ht
    cases h
    refine ⟨rfl, (tm_fill (hj rfl) (Lv := [(1, .one (.d false false (.int .i64) l)), (4, .one (.v false (.bool re))), (5, .one (.p 4 0)), (6, .one (.p 5 0)), (7, .one (.v false (.int .i64 i)))]) (by kernel_rfl) (by simp only [allGet, ht, and_true])).trans (by kernel_rfl), rfl⟩
  · cases h
theorem crn_read_ok (st : Stt) (u : crn_U) (v : crn_V) (h : crn_read st = some (u, v)) : crn_cok st = true ∧ staysA [] [5, 4, 0] st.own = true ∧ crn_can st = crn_St u v := by
  obtain ⟨h1, h2, h3⟩ := crn_rd_ok (fun hb => by rw [Bool.and_eq_true, Bool.and_eq_true] at hb; exact hb.2.2) h
  rw [Bool.and_eq_true, Bool.and_eq_true] at h1
  refine ⟨h1.1, h1.2.1, ?_⟩
  have e : crn_can st = ⟨(crn_can st).tm, (crn_can st).own, 1009⟩ := by kernel_rfl
  rw [e, h2, h3]
  rfl
def crn_cond (u : crn_U) (v : crn_V) : Bool :=
  match u, v with
  | (l, a0, a1, a2, a3, a5, b0, b1, b2, b3, b5), (re, i, a4, b4) => decide (a0 = b0) && decide (a1 = b1) && decide (a2 = b2) && decide (a3 = b3) && decide (a4 = b4) && decide (a5 = b5) && decide (0 ≤ i) && decide (i ≤ 200)
def crn_mu (u : crn_U) (v : crn_V) : Nat :=
  match u, v with
  | (l, a0, a1, a2, a3, a5, b0, b1, b2, b3, b5), (re, i, a4, b4) => (200 - i).toNat
def crn_g (u : crn_U) (v : crn_V) : Nat × crn_V := loopG (crn_step u) (fun v => crn_mu u v + 1) v
def crn_Q (u : crn_U) (v : crn_V) (t : Nat × crn_V) : Prop :=
  match u, v, t with
  | (l, a0, a1, a2, a3, a5, b0, b1, b2, b3, b5), (re, i, a4, b4), (k, (re', i', a4', b4')) => k = 1
set_option maxHeartbeats 4000000 in
theorem crn_round (u0 : crn_U) (v0 : crn_V) : ∀ (v : crn_V), (crn_cond u0 v = true ∧ (∀ t, crn_Q u0 v t → crn_Q u0 v0 t)) → (crn_step u0 v).all (fun x => match x with | .inl s' => (crn_cond u0 s' = true ∧ (∀ t, crn_Q u0 s' t → crn_Q u0 v0 t)) ∧ crn_mu u0 s' < crn_mu u0 v | .inr t => crn_Q u0 v0 t) := by
  suffices H : ∀ (u : crn_U) (v : crn_V), crn_cond u v = true → (crn_step u v).all (fun x => match x with | .inl s' => (crn_cond u s' = true ∧ (∀ t, crn_Q u s' t → crn_Q u v t)) ∧ crn_mu u s' < crn_mu u v | .inr t => crn_Q u v t) by
    intro v h
    refine (H u0 v h.1).mono fun x hx => ?_
    cases x with
    | inl s' => exact ⟨⟨hx.1.1, fun t ht => h.2 t (hx.1.2 t ht)⟩, hx.2⟩
    | inr t => exact h.2 t hx
  rintro ⟨l, a0, a1, a2, a3, a5, b0, b1, b2, b3, b5⟩ ⟨re, i, a4, b4⟩ h
  simp only [crn_cond, Bool.and_eq_true, decide_eq_true_eq] at h
  obtain ⟨⟨⟨⟨⟨⟨⟨h0, h1⟩, h2⟩, h3⟩, h4⟩, h5⟩, hi0⟩, hi1⟩ := h
  subst h0 h1 h2 h3 h4 h5
  unfold crn_step
  dsimp only
  generalize el_i l i = e
  simp only [Tr.all]
  refine ⟨fun c1 => ⟨fun c2 => ⟨fun c3 => ⟨fun c4 => ⟨fun c5 => ?_, fun c5 => ?_⟩, fun c4 => ?_⟩, fun c3 => ?_⟩, fun c2 => ?_⟩, fun c1 => ?_⟩
  · exfalso
    simp at c5
  · simp at c1
    have e : IntKind.i64.wrap (i + 1) = i + 1 := IntWalk.i64_in _ ⟨by omega, by omega⟩
    refine ⟨⟨?_, fun _ ht => ht⟩, ?_⟩
    · simp [crn_cond, e]; omega
    · simp only [crn_mu, e]; omega
  · exact absurd c4 (by decide)
  · simp at c1 c2 c3; omega
  · simp at c1 c2; omega
  · exact rfl
theorem crn_all (u : crn_U) (v : crn_V) (h : crn_cond u v = true) : loopN (crn_step u) (crn_mu u v + 1) v = some (crn_g u v) ∧ crn_Q u v (crn_g u v) :=
  loopG_ok (fuel := fun v => crn_mu u v + 1) (loopN_inv (Inv := fun s => crn_cond u s = true ∧ ∀ t, crn_Q u s t → crn_Q u v t) (μ := fun s => crn_mu u s) (crn_round u v) _ v ⟨h, fun _ ht => ht⟩ (Nat.lt_succ_self _))
theorem crn_hg : ∀ (u : crn_U) (v : crn_V), crn_cond u v = true → loopN (crn_step u) ((fun u v => crn_mu u v + 1) u v) v = some (crn_g u v) := by
  exact fun u v h => (crn_all u v h).1
def crn_m (st : Stt) : Option (Tr (Ex × Stt)) := sumM crn_read crn_cond crn_St crn_g [(1, .exit 0)] st
def crB_L51 : FuncId → Loops := addL 3 [0, 1, 0, 1, 1] crn_m L0
set_option maxRecDepth 100000 in
set_option maxHeartbeats 4000000 in
theorem crB_L51_ok : LoopsOK Try.prog crB_L51 :=
  loop_sumF (body := (bodyOf Try.prog 3)) (c := (loopOf (bodyOf Try.prog 3) [1, 1, 0, 1, 0])) (kinds := [.ret, .exit 0]) (allow := [(1, .exit 0)]) (St := crn_St) (step := crn_step) (W := [0, 2, 3, 8, 9, 10, 11, 12, 13, 14, 15, 16, 17, 18, 19, 20, 21, 22, 23, 24, 25, 26, 27, 28, 29, 30, 31, 32, 33, 34, 35, 36, 37, 38, 39, 40, 41, 42, 43, 44, 45, 46, 47, 48]) (As := []) (ks := [5, 4, 0]) (dd := [0]) (nx := 1009) (n := 100000) (g := crn_g) (cond := crn_cond) (fuel := (fun u v => crn_mu u v + 1)) (read := crn_read) (by kernel_rfl) (crA_S11_ok) (L0_ok _) 7 ⟨Try.f3, by kernel_rfl, by kernel_rfl⟩ (by kernel_rfl) (by kernel_rfl) (by kernel_rfl) crn_step_eq crn_hg crn_read_ok
set_option maxRecDepth 100000 in
theorem law_ControlRuns_tree (tg : Int) (kp : Int) (ki : Int) (sc : Int) (su : Int) (li : Int) (l : (Ty.list (.int .i64)).den) : evalF Try.prog crA_S11 (opens []) crB_L51 8 3 [.ag [.v false (.int .i64 tg), .v false (.int .i64 kp), .v false (.int .i64 ki), .v false (.int .i64 sc), .v false (.int .i64 su), .v false (.int .i64 li)], .one (.d false false (.int .i64) l)] = .br (((crn_cond (l, tg, kp, ki, sc, li, tg, kp, ki, sc, li) (false, (0 : Int), su, su)) && (Nat.beq (Prod.fst (crn_g (l, tg, kp, ki, sc, li, tg, kp, ki, sc, li) (false, (0 : Int), su, su))) (1 : Nat)))) (.ret (.one (.v true (.bool (true))))) (.bad 116) := by kernel_rfl
set_option maxHeartbeats 4000000 in
theorem law_ControlRuns_all (tg : Int) (kp : Int) (ki : Int) (sc : Int) (su : Int) (li : Int) (l : (Ty.list (.int .i64)).den) (r0 : Ty.InR (.prod (.int .i64) (.prod (.int .i64) (.prod (.int .i64) (.prod (.int .i64) (.prod (.int .i64) (.int .i64)))))) (tg, (kp, (ki, (sc, (su, li)))))) (r1 : Ty.InR (.list (.int .i64)) l)  : Tr.all (fun r => ∃ kn, r = AV.one (.v kn (.bool true))) (.br (((crn_cond (l, tg, kp, ki, sc, li, tg, kp, ki, sc, li) (false, (0 : Int), su, su)) && (Nat.beq (Prod.fst (crn_g (l, tg, kp, ki, sc, li, tg, kp, ki, sc, li) (false, (0 : Int), su, su))) (1 : Nat)))) (.ret (.one (.v true (.bool (true))))) (.bad 116)) := by
  have hc : crn_cond (l, tg, kp, ki, sc, li, tg, kp, ki, sc, li) (false, (0 : Int), su, su) = true := by simp [crn_cond]
  have A := (crn_all _ _ hc).2
  have A : (crn_g (l, tg, kp, ki, sc, li, tg, kp, ki, sc, li) (false, (0 : Int), su, su)).1 = 1 := A
  rw [hc, A]
  exact ⟨fun _ => ⟨true, rfl⟩, fun h => by cases h⟩
set_option maxHeartbeats 4000000 in
theorem law_ControlRuns (v0 : Value) (x0 : ((.prod (.int .i64) (.prod (.int .i64) (.prod (.int .i64) (.prod (.int .i64) (.prod (.int .i64) (.int .i64)))))) : Ty).den) (r0 : Ty.InR (.prod (.int .i64) (.prod (.int .i64) (.prod (.int .i64) (.prod (.int .i64) (.prod (.int .i64) (.int .i64)))))) x0) (v1 : Value) (x1 : ((.list (.int .i64)) : Ty).den) (r1 : Ty.InR (.list (.int .i64)) x1) (z_w : World) (i0 : (AV.ag (Ty.cells false (.prod (.int .i64) (.prod (.int .i64) (.prod (.int .i64) (.prod (.int .i64) (.prod (.int .i64) (.int .i64)))))) x0)).is [] (fun _ => none) (fun b => b < z_w.heap.size) z_w v0) (i1 : (AV.one (.d false false (.int .i64) x1)).is [] (fun _ => none) (fun b => b < z_w.heap.size) z_w v1) : Calls Try.prog 3 #[v0, v1] z_w fun e w' => e = .returned (.bool true) ∧ Ext z_w w' := by
  obtain ⟨tg, ⟨kp, ⟨ki, ⟨sc, ⟨su, li⟩⟩⟩⟩⟩ := x0
  obtain ⟨l, rfl⟩ : ∃ y, y = x1 := ⟨_, rfl⟩
  refine law_of_tree (by kernel_rfl) (crA_S11_ok) (crB_L51_ok) (law_ControlRuns_tree tg kp ki sc su li l) (law_ControlRuns_all tg kp ki sc su li l r0 r1 ) rfl z_w _ _ (fun _ h => h) ⟨_, _, rfl, i0, ⟨_, _, rfl, i1, rfl⟩⟩
end Go.Proofs.Ytbfkddnehdoliaa
