/-
  Layer 49: ControlAims.
-/
import Derived.Test.YtbfkddnehdoliaaProg
import Derived.Test.YtbfkddnehdoliaaFvX
import Derived.Test.YtbfkddnehdoliaaFvZ
import Derived.Test.YtbfkddnehdoliaaCrA
namespace Go.Proofs.Ytbfkddnehdoliaa
open Go
abbrev cam_U : Type := (Ty.list (.int .i64)).den × Int × Int × Int × Int × Int
abbrev cam_V : Type := Bool × Int × Int
def cam_St (u : cam_U) (v : cam_V) : Stt := ⟨[.one .junk, .one .junk, .one (.d false false (.int .i64) u.1), .one .junk, .one .junk, .one .junk, .one (.v false (.bool v.1)), .one .junk, .one .junk, .one (.p 60 0), .one .junk, .one (.v false (.int .i64 v.2.1)), .one .junk, .one .junk, .one .junk, .one .junk, .one .junk, .one .junk, .one .junk, .one .junk, .one .junk, .one .junk, .one .junk, .one .junk, .one .junk, .one .junk, .one .junk, .one .junk, .one .junk, .one .junk, .one .junk, .one .junk, .one .junk, .one .junk, .one .junk, .one .junk, .one .junk, .one .junk, .one .junk, .one .junk, .one .junk, .one .junk, .one .junk, .one .junk, .one .junk, .one .junk, .one .junk, .one .junk, .one .junk, .one .junk, .one .junk, .one .junk, .one .junk, .one .junk, .one .junk, .one .junk, .one .junk, .one .junk, .one .junk, .one .junk, .one .junk, .one .junk, .one .junk, .one .junk, .one .junk, .one .junk, .one .junk, .one .junk, .one .junk, .one .junk, .one .junk, .one .junk, .one .junk, .one .junk, .one .junk, .one .junk, .one .junk, .one .junk, .one .junk, .one .junk, .one .junk, .one .junk, .one .junk, .one .junk, .one .junk, .one .junk, .one .junk, .one .junk, .one .junk, .one .junk, .one .junk, .one .junk, .one .junk, .one .junk, .one .junk, .one .junk, .one .junk, .one .junk, .one .junk, .one .junk, .one .junk, .one .junk, .one .junk, .one .junk, .one .junk, .one .junk, .one .junk], [(60, .cells [.v false (.int .i64 u.2.1), .v false (.int .i64 u.2.2.1), .v false (.int .i64 u.2.2.2.1), .v false (.int .i64 u.2.2.2.2.1), .v false (.int .i64 v.2.2), .v false (.int .i64 u.2.2.2.2.2)]), (8, .dead), (0, .dead)], 1066⟩
def el_i (l : (Ty.list (Ty.int IntKind.i64)).den) (i : Int) : Int := elm (Ty.int IntKind.i64) l i
def cam_step (u : cam_U) (v : cam_V) : Tr (cam_V ⊕ (Nat × cam_V)) :=
  match u, v with
  | (l, a0, a1, a2, a3, a5), (re, i, a4) => .br (bif decide (i < ↑(List.length l)) then decide (i < (50 : Int)) else false) (.br (decide ((0 : Int) ≤ i) && decide (i < ↑(List.length l))) (.br (bif st1 a0 a1 a2 a3 a4 a5 (el_i l i) != (0 : Int) then true else st0 a0 a1 a2 a3 a4 a5 (el_i l i) != (0 : Int)) (.ret (.inr (0, (false, i, st0 a0 a1 a2 a3 a4 a5 (el_i l i))))) (.ret (.inl (re, IntKind.wrap IntKind.i64 (i + (1 : Int)), st0 a0 a1 a2 a3 a4 a5 (el_i l i))))) (.bad 29)) (.ret (.inr (1, (re, i, a4))))
set_option maxRecDepth 100000 in
set_option maxHeartbeats 4000000 in
theorem cam_step_eq : ∀ (u : cam_U) (v : cam_V), (evalC Try.prog (evalB Try.prog crA_S11 (opens []) L0 7).1 (evalB Try.prog crA_S11 (opens []) L0 7).2 (opens []) (L0 4) 100000 (0 :: [0, 1, 0, 1, 1, 1, 1, 1, 1]) (loopOf (bodyOf Try.prog 4) [1, 1, 1, 1, 1, 1, 0, 1, 0]) (cam_St u v) []).bind (finF [0, 1, 3, 4, 5, 7, 8, 10, 12, 13, 14, 15, 16, 17, 18, 19, 20, 21, 22, 23, 24, 25, 26, 27, 28, 29, 30, 31, 32, 33, 34, 35, 36, 37, 38, 39, 40, 41, 42, 43, 44, 45, 46, 47, 48, 49, 50, 51, 52, 53, 54, 55, 56, 57, 58, 59, 60, 61, 62, 63, 64, 65, 66, 67, 68, 69, 70, 71, 72, 73, 74, 75, 76, 77, 78, 79, 80, 81, 82, 83, 84, 85, 86, 87, 88, 89, 90, 91, 92, 93, 94, 95, 96, 97, 98, 99, 100, 101, 102, 103, 104, 105, 106] [] [60, 8, 0] [8, 0] 1066) = (cam_step u v).bind (outA (cam_St u) [.ret, .exit 0]) := by
  rintro ⟨l, a0, a1, a2, a3, a5⟩ ⟨re, i, a4⟩
  kernel_rfl
def cam_rd (b : Bool) (tm : List (Option AV)) (own : Own) : Option (cam_U × cam_V) :=
  match b, tm, own with
  | true, [some (.one (.d false false (.int .i64) l)), some (.one (.v false (.bool re))), some (.one (.p 60 0)), some (.one (.v false (.int .i64 i)))], [(60, .cells [.v false (.int .i64 a0), .v false (.int .i64 a1), .v false (.int .i64 a2), .v false (.int .i64 a3), .v false (.int .i64 a4), .v false (.int .i64 a5)]), (8, .dead), (0, .dead)] => some ((l, a0, a1, a2, a3, a5), (re, i, a4))
  | _, _, _ => none
def cam_can (st : Stt) : Stt := canA [0, 1, 3, 4, 5, 7, 8, 10, 12, 13, 14, 15, 16, 17, 18, 19, 20, 21, 22, 23, 24, 25, 26, 27, 28, 29, 30, 31, 32, 33, 34, 35, 36, 37, 38, 39, 40, 41, 42, 43, 44, 45, 46, 47, 48, 49, 50, 51, 52, 53, 54, 55, 56, 57, 58, 59, 60, 61, 62, 63, 64, 65, 66, 67, 68, 69, 70, 71, 72, 73, 74, 75, 76, 77, 78, 79, 80, 81, 82, 83, 84, 85, 86, 87, 88, 89, 90, 91, 92, 93, 94, 95, 96, 97, 98, 99, 100, 101, 102, 103, 104, 105, 106] [] [60, 8, 0] [8, 0] 1066 st
def cam_cok (st : Stt) : Bool := canAok [0, 1, 3, 4, 5, 7, 8, 10, 12, 13, 14, 15, 16, 17, 18, 19, 20, 21, 22, 23, 24, 25, 26, 27, 28, 29, 30, 31, 32, 33, 34, 35, 36, 37, 38, 39, 40, 41, 42, 43, 44, 45, 46, 47, 48, 49, 50, 51, 52, 53, 54, 55, 56, 57, 58, 59, 60, 61, 62, 63, 64, 65, 66, 67, 68, 69, 70, 71, 72, 73, 74, 75, 76, 77, 78, 79, 80, 81, 82, 83, 84, 85, 86, 87, 88, 89, 90, 91, 92, 93, 94, 95, 96, 97, 98, 99, 100, 101, 102, 103, 104, 105, 106] [] [60, 8, 0] [8, 0] 1066 st
def cam_read (st : Stt) : Option (cam_U × cam_V) := cam_rd (cam_cok st && (staysA [] [60, 8, 0] st.own && juAll [0, 1, 3, 4, 5, 7, 8, 10, 12, 13, 14, 15, 16, 17, 18, 19, 20, 21, 22, 23, 24, 25, 26, 27, 28, 29, 30, 31, 32, 33, 34, 35, 36, 37, 38, 39, 40, 41, 42, 43, 44, 45, 46, 47, 48, 49, 50, 51, 52, 53, 54, 55, 56, 57, 58, 59, 60, 61, 62, 63, 64, 65, 66, 67, 68, 69, 70, 71, 72, 73, 74, 75, 76, 77, 78, 79, 80, 81, 82, 83, 84, 85, 86, 87, 88, 89, 90, 91, 92, 93, 94, 95, 96, 97, 98, 99, 100, 101, 102, 103, 104, 105, 106] (cam_can st).tm 107)) [(cam_can st).tm[2]?, (cam_can st).tm[6]?, (cam_can st).tm[9]?, (cam_can st).tm[11]?] (cam_can st).own
set_option maxRecDepth 100000 in
set_option maxHeartbeats 4000000 in
theorem cam_rd_ok {b : Bool} {tm : List AV} {own : Own} {u : cam_U} {v : cam_V} (hj : b = true → juAll [0, 1, 3, 4, 5, 7, 8, 10, 12, 13, 14, 15, 16, 17, 18, 19, 20, 21, 22, 23, 24, 25, 26, 27, 28, 29, 30, 31, 32, 33, 34, 35, 36, 37, 38, 39, 40, 41, 42, 43, 44, 45, 46, 47, 48, 49, 50, 51, 52, 53, 54, 55, 56, 57, 58, 59, 60, 61, 62, 63, 64, 65, 66, 67, 68, 69, 70, 71, 72, 73, 74, 75, 76, 77, 78, 79, 80, 81, 82, 83, 84, 85, 86, 87, 88, 89, 90, 91, 92, 93, 94, 95, 96, 97, 98, 99, 100, 101, 102, 103, 104, 105, 106] tm 107 = true) (h : cam_rd b [tm[2]?, tm[6]?, tm[9]?, tm[11]?] own = some (u, v)) : b = true ∧ tm = (cam_St u v).tm ∧ own = (cam_St u v).own := by
  unfold cam_rd at h
  split at h
  · rename_i l re i a0 a1 a2 a3 a4 a5 ht
    simp only [List.cons.injEq, and_true] at ht
    cases h
    refine ⟨rfl, (tm_fill (hj rfl) (Lv := [(2, .one (.d false false (.int .i64) l)), (6, .one (.v false (.bool re))), (9, .one (.p 60 0)), (11, .one (.v false (.int .i64 i)))]) (by kernel_rfl) (by simp only [allGet, ht, and_true])).trans (by kernel_rfl), rfl⟩
  · cases h
theorem cam_read_ok (st : Stt) (u : cam_U) (v : cam_V) (h : cam_read st = some (u, v)) : cam_cok st = true ∧ staysA [] [60, 8, 0] st.own = true ∧ cam_can st = cam_St u v := by
  obtain ⟨h1, h2, h3⟩ := cam_rd_ok (fun hb => by rw [Bool.and_eq_true, Bool.and_eq_true] at hb; exact hb.2.2) h
  rw [Bool.and_eq_true, Bool.and_eq_true] at h1
  refine ⟨h1.1, h1.2.1, ?_⟩
  have e : cam_can st = ⟨(cam_can st).tm, (cam_can st).own, 1066⟩ := by kernel_rfl
  rw [e, h2, h3]
  rfl
def cam_cond (u : cam_U) (v : cam_V) : Bool :=
  match u, v with
  | (l, a0, a1, a2, a3, a5), (re, i, a4) => decide (a0 = 0) && decide (a4 = 0) && decide (0 ≤ i) && decide (i ≤ 200)
def cam_mu (u : cam_U) (v : cam_V) : Nat :=
  match u, v with
  | (l, a0, a1, a2, a3, a5), (re, i, a4) => (200 - i).toNat
def cam_g (u : cam_U) (v : cam_V) : Nat × cam_V := loopG (cam_step u) (fun v => cam_mu u v + 1) v
def cam_Q (u : cam_U) (v : cam_V) (t : Nat × cam_V) : Prop :=
  match u, v, t with
  | (l, a0, a1, a2, a3, a5), (re, i, a4), (k, (re', i', a4')) => k = 1
set_option maxHeartbeats 4000000 in
theorem cam_round (u0 : cam_U) (v0 : cam_V) : ∀ (v : cam_V), (cam_cond u0 v = true ∧ (∀ t, cam_Q u0 v t → cam_Q u0 v0 t)) → (cam_step u0 v).all (fun x => match x with | .inl s' => (cam_cond u0 s' = true ∧ (∀ t, cam_Q u0 s' t → cam_Q u0 v0 t)) ∧ cam_mu u0 s' < cam_mu u0 v | .inr t => cam_Q u0 v0 t) := by
  suffices H : ∀ (u : cam_U) (v : cam_V), cam_cond u v = true → (cam_step u v).all (fun x => match x with | .inl s' => (cam_cond u s' = true ∧ (∀ t, cam_Q u s' t → cam_Q u v t)) ∧ cam_mu u s' < cam_mu u v | .inr t => cam_Q u v t) by
    intro v h
    refine (H u0 v h.1).mono fun x hx => ?_
    cases x with
    | inl s' => exact ⟨⟨hx.1.1, fun t ht => h.2 t (hx.1.2 t ht)⟩, hx.2⟩
    | inr t => exact h.2 t hx
  rintro ⟨l, a0, a1, a2, a3, a5⟩ ⟨re, i, a4⟩ h
  simp only [cam_cond, Bool.and_eq_true, decide_eq_true_eq] at h
  obtain ⟨⟨⟨h0, h4⟩, hi0⟩, hi1⟩ := h
  subst h0 h4
  unfold cam_step
  dsimp only
  generalize el_i l i = e
  have E0 : st0 0 a1 a2 a3 0 a5 e = 0 := by unfold st0; simp
  have E1 : st1 0 a1 a2 a3 0 a5 e = 0 := by unfold st1; simp
  simp only [Tr.all]
  refine ⟨fun c1 => ⟨fun c2 => ⟨fun c3 => ?_, fun c3 => ?_⟩, fun c2 => ?_⟩, fun c1 => ?_⟩
  · exfalso
    rw [E0, E1] at c3
    cases c3
  · simp at c1
    have e : IntKind.i64.wrap (i + 1) = i + 1 := IntWalk.i64_in _ ⟨by omega, by omega⟩
    refine ⟨⟨?_, fun _ ht => ht⟩, ?_⟩
    · simp [cam_cond, e, E0]; omega
    · simp only [cam_mu, e]; omega
  · simp at c1 c2; omega
  · exact rfl
theorem cam_all (u : cam_U) (v : cam_V) (h : cam_cond u v = true) : loopN (cam_step u) (cam_mu u v + 1) v = some (cam_g u v) ∧ cam_Q u v (cam_g u v) :=
  loopG_ok (fuel := fun v => cam_mu u v + 1) (loopN_inv (Inv := fun s => cam_cond u s = true ∧ ∀ t, cam_Q u s t → cam_Q u v t) (μ := fun s => cam_mu u s) (cam_round u v) _ v ⟨h, fun _ ht => ht⟩ (Nat.lt_succ_self _))
theorem cam_hg : ∀ (u : cam_U) (v : cam_V), cam_cond u v = true → loopN (cam_step u) ((fun u v => cam_mu u v + 1) u v) v = some (cam_g u v) := by
  exact fun u v h => (cam_all u v h).1
def cam_m (st : Stt) : Option (Tr (Ex × Stt)) := sumM cam_read cam_cond cam_St cam_g [(1, .exit 0)] st
def crC_L51 : FuncId → Loops := addL 4 [0, 1, 0, 1, 1, 1, 1, 1, 1] cam_m L0
set_option maxRecDepth 100000 in
set_option maxHeartbeats 4000000 in
theorem crC_L51_ok : LoopsOK Try.prog crC_L51 :=
  loop_sumF (body := (bodyOf Try.prog 4)) (c := (loopOf (bodyOf Try.prog 4) [1, 1, 1, 1, 1, 1, 0, 1, 0])) (kinds := [.ret, .exit 0]) (allow := [(1, .exit 0)]) (St := cam_St) (step := cam_step) (W := [0, 1, 3, 4, 5, 7, 8, 10, 12, 13, 14, 15, 16, 17, 18, 19, 20, 21, 22, 23, 24, 25, 26, 27, 28, 29, 30, 31, 32, 33, 34, 35, 36, 37, 38, 39, 40, 41, 42, 43, 44, 45, 46, 47, 48, 49, 50, 51, 52, 53, 54, 55, 56, 57, 58, 59, 60, 61, 62, 63, 64, 65, 66, 67, 68, 69, 70, 71, 72, 73, 74, 75, 76, 77, 78, 79, 80, 81, 82, 83, 84, 85, 86, 87, 88, 89, 90, 91, 92, 93, 94, 95, 96, 97, 98, 99, 100, 101, 102, 103, 104, 105, 106]) (As := []) (ks := [60, 8, 0]) (dd := [8, 0]) (nx := 1066) (n := 100000) (g := cam_g) (cond := cam_cond) (fuel := (fun u v => cam_mu u v + 1)) (read := cam_read) (by kernel_rfl) (crA_S11_ok) (L0_ok _) 7 ⟨Try.f4, by kernel_rfl, by kernel_rfl⟩ (by kernel_rfl) (by kernel_rfl) (by kernel_rfl) cam_step_eq cam_hg cam_read_ok
theorem aim_bad {tg kp ki sc su li nt : Int} (h : (bif bif !cval tg kp ki sc su li then true else decide (nt < (0 : Int)) then true else decide (nt > (400000 : Int))) = true) : aim0 tg kp ki sc su li nt = 0 ∧ aim1 tg kp ki sc su li nt = 0 ∧ aim2 tg kp ki sc su li nt = 0 ∧ aim3 tg kp ki sc su li nt = 0 ∧ aim4 tg kp ki sc su li nt = 0 ∧ aim5 tg kp ki sc su li nt = 1 := by
  simp only [aim0, aim1, aim2, aim3, aim4, aim5, h, cond_true, and_self]
theorem aim_fine {tg kp ki sc su li nt : Int} (h : (bif bif !cval tg kp ki sc su li then true else decide (nt < (0 : Int)) then true else decide (nt > (400000 : Int))) = false) : aim0 tg kp ki sc su li nt = nt ∧ aim1 tg kp ki sc su li nt = kp ∧ aim2 tg kp ki sc su li nt = ki ∧ aim3 tg kp ki sc su li nt = sc ∧ aim4 tg kp ki sc su li nt = li ∧ aim5 tg kp ki sc su li nt = 0 := by
  simp only [aim0, aim1, aim2, aim3, aim4, aim5, h, cond_false, and_self]
set_option maxRecDepth 100000 in
theorem law_ControlAims_tree (tg : Int) (kp : Int) (ki : Int) (sc : Int) (su : Int) (li : Int) (nt : Int) (l : (Ty.list (.int .i64)).den) : evalF Try.prog crA_S11 (opens []) crC_L51 8 4 [.ag [.v false (.int .i64 tg), .v false (.int .i64 kp), .v false (.int .i64 ki), .v false (.int .i64 sc), .v false (.int .i64 su), .v false (.int .i64 li)], .one (.v false (.int .i64 nt)), .one (.d false false (.int .i64) l)] = .br ((bif aim5 tg kp ki sc su li nt != (0 : Int) then true else (((bif bif bif bif bif bif aim0 tg kp ki sc su li nt != nt then true else (0 : Int) != (0 : Int) then true else aim1 tg kp ki sc su li nt != kp then true else aim2 tg kp ki sc su li nt != ki then true else aim3 tg kp ki sc su li nt != sc then true else aim4 tg kp ki sc su li nt != li then true else (true))) && (bif bif bif bif bif bif bif aim0 tg kp ki sc su li nt != nt then true else (0 : Int) != (0 : Int) then true else aim1 tg kp ki sc su li nt != kp then true else aim2 tg kp ki sc su li nt != ki then true else aim3 tg kp ki sc su li nt != sc then true else aim4 tg kp ki sc su li nt != li then true else !cval (aim0 tg kp ki sc su li nt) (aim1 tg kp ki sc su li nt) (aim2 tg kp ki sc su li nt) (aim3 tg kp ki sc su li nt) (0 : Int) (aim4 tg kp ki sc su li nt) then true else (bif aim5 (aim0 tg kp ki sc su li nt) (aim1 tg kp ki sc su li nt) (aim2 tg kp ki sc su li nt) (aim3 tg kp ki sc su li nt) (0 : Int) (aim4 tg kp ki sc su li nt) (0 : Int) != (0 : Int) then true else ((cam_cond (l, aim0 (aim0 tg kp ki sc su li nt) (aim1 tg kp ki sc su li nt) (aim2 tg kp ki sc su li nt) (aim3 tg kp ki sc su li nt) (0 : Int) (aim4 tg kp ki sc su li nt) (0 : Int), aim1 (aim0 tg kp ki sc su li nt) (aim1 tg kp ki sc su li nt) (aim2 tg kp ki sc su li nt) (aim3 tg kp ki sc su li nt) (0 : Int) (aim4 tg kp ki sc su li nt) (0 : Int), aim2 (aim0 tg kp ki sc su li nt) (aim1 tg kp ki sc su li nt) (aim2 tg kp ki sc su li nt) (aim3 tg kp ki sc su li nt) (0 : Int) (aim4 tg kp ki sc su li nt) (0 : Int), aim3 (aim0 tg kp ki sc su li nt) (aim1 tg kp ki sc su li nt) (aim2 tg kp ki sc su li nt) (aim3 tg kp ki sc su li nt) (0 : Int) (aim4 tg kp ki sc su li nt) (0 : Int), aim4 (aim0 tg kp ki sc su li nt) (aim1 tg kp ki sc su li nt) (aim2 tg kp ki sc su li nt) (aim3 tg kp ki sc su li nt) (0 : Int) (aim4 tg kp ki sc su li nt) (0 : Int)) (false, (0 : Int), (0 : Int))) && (Nat.beq (Prod.fst (cam_g (l, aim0 (aim0 tg kp ki sc su li nt) (aim1 tg kp ki sc su li nt) (aim2 tg kp ki sc su li nt) (aim3 tg kp ki sc su li nt) (0 : Int) (aim4 tg kp ki sc su li nt) (0 : Int), aim1 (aim0 tg kp ki sc su li nt) (aim1 tg kp ki sc su li nt) (aim2 tg kp ki sc su li nt) (aim3 tg kp ki sc su li nt) (0 : Int) (aim4 tg kp ki sc su li nt) (0 : Int), aim2 (aim0 tg kp ki sc su li nt) (aim1 tg kp ki sc su li nt) (aim2 tg kp ki sc su li nt) (aim3 tg kp ki sc su li nt) (0 : Int) (aim4 tg kp ki sc su li nt) (0 : Int), aim3 (aim0 tg kp ki sc su li nt) (aim1 tg kp ki sc su li nt) (aim2 tg kp ki sc su li nt) (aim3 tg kp ki sc su li nt) (0 : Int) (aim4 tg kp ki sc su li nt) (0 : Int), aim4 (aim0 tg kp ki sc su li nt) (aim1 tg kp ki sc su li nt) (aim2 tg kp ki sc su li nt) (aim3 tg kp ki sc su li nt) (0 : Int) (aim4 tg kp ki sc su li nt) (0 : Int)) (false, (0 : Int), (0 : Int)))) (1 : Nat)))))))) (.ret (.one (.v false (.bool (bif aim5 tg kp ki sc su li nt != (0 : Int) then   bif       bif aim5 tg kp ki sc su li nt == (1 : Int) then         match true with         | true => aim0 tg kp ki sc su li nt == (0 : Int) && (aim1 tg kp ki sc su li nt == (0 : Int) && (aim2 tg kp ki sc su li nt == (0 : Int) && (aim3 tg kp ki sc su li nt == (0 : Int) && ((0 : Int) == (0 : Int) && (aim4 tg kp ki sc su li nt == (0 : Int) && true)))))         | false => !(aim0 tg kp ki sc su li nt == (0 : Int) && (aim1 tg kp ki sc su li nt == (0 : Int) && (aim2 tg kp ki sc su li nt == (0 : Int) && (aim3 tg kp ki sc su li nt == (0 : Int) && ((0 : Int) == (0 : Int) && (aim4 tg kp ki sc su li nt == (0 : Int) && true))))))       else false then     true   else false else bif bif bif bif bif bif bif aim0 tg kp ki sc su li nt != nt then true else (0 : Int) != (0 : Int) then true else aim1 tg kp ki sc su li nt != kp then true else aim2 tg kp ki sc su li nt != ki then true else aim3 tg kp ki sc su li nt != sc then true else aim4 tg kp ki sc su li nt != li then true else !cval (aim0 tg kp ki sc su li nt) (aim1 tg kp ki sc su li nt) (aim2 tg kp ki sc su li nt) (aim3 tg kp ki sc su li nt) (0 : Int) (aim4 tg kp ki sc su li nt) then false else bif aim5 (aim0 tg kp ki sc su li nt) (aim1 tg kp ki sc su li nt) (aim2 tg kp ki sc su li nt) (aim3 tg kp ki sc su li nt) (0 : Int) (aim4 tg kp ki sc su li nt) (0 : Int) != (0 : Int) then false else true))))) (.bad 116) := by kernel_rfl
set_option maxHeartbeats 4000000 in
theorem law_ControlAims_all (tg : Int) (kp : Int) (ki : Int) (sc : Int) (su : Int) (li : Int) (nt : Int) (l : (Ty.list (.int .i64)).den) (r0 : Ty.InR (.prod (.int .i64) (.prod (.int .i64) (.prod (.int .i64) (.prod (.int .i64) (.prod (.int .i64) (.int .i64)))))) (tg, (kp, (ki, (sc, (su, li)))))) (r2 : Ty.InR (.list (.int .i64)) l) (l1 : -9223372036854775808 ≤ nt) (g1 : nt ≤ 9223372036854775807) : Tr.all (fun r => ∃ kn, r = AV.one (.v kn (.bool true))) (.br ((bif aim5 tg kp ki sc su li nt != (0 : Int) then true else (((bif bif bif bif bif bif aim0 tg kp ki sc su li nt != nt then true else (0 : Int) != (0 : Int) then true else aim1 tg kp ki sc su li nt != kp then true else aim2 tg kp ki sc su li nt != ki then true else aim3 tg kp ki sc su li nt != sc then true else aim4 tg kp ki sc su li nt != li then true else (true))) && (bif bif bif bif bif bif bif aim0 tg kp ki sc su li nt != nt then true else (0 : Int) != (0 : Int) then true else aim1 tg kp ki sc su li nt != kp then true else aim2 tg kp ki sc su li nt != ki then true else aim3 tg kp ki sc su li nt != sc then true else aim4 tg kp ki sc su li nt != li then true else !cval (aim0 tg kp ki sc su li nt) (aim1 tg kp ki sc su li nt) (aim2 tg kp ki sc su li nt) (aim3 tg kp ki sc su li nt) (0 : Int) (aim4 tg kp ki sc su li nt) then true else (bif aim5 (aim0 tg kp ki sc su li nt) (aim1 tg kp ki sc su li nt) (aim2 tg kp ki sc su li nt) (aim3 tg kp ki sc su li nt) (0 : Int) (aim4 tg kp ki sc su li nt) (0 : Int) != (0 : Int) then true else ((cam_cond (l, aim0 (aim0 tg kp ki sc su li nt) (aim1 tg kp ki sc su li nt) (aim2 tg kp ki sc su li nt) (aim3 tg kp ki sc su li nt) (0 : Int) (aim4 tg kp ki sc su li nt) (0 : Int), aim1 (aim0 tg kp ki sc su li nt) (aim1 tg kp ki sc su li nt) (aim2 tg kp ki sc su li nt) (aim3 tg kp ki sc su li nt) (0 : Int) (aim4 tg kp ki sc su li nt) (0 : Int), aim2 (aim0 tg kp ki sc su li nt) (aim1 tg kp ki sc su li nt) (aim2 tg kp ki sc su li nt) (aim3 tg kp ki sc su li nt) (0 : Int) (aim4 tg kp ki sc su li nt) (0 : Int), aim3 (aim0 tg kp ki sc su li nt) (aim1 tg kp ki sc su li nt) (aim2 tg kp ki sc su li nt) (aim3 tg kp ki sc su li nt) (0 : Int) (aim4 tg kp ki sc su li nt) (0 : Int), aim4 (aim0 tg kp ki sc su li nt) (aim1 tg kp ki sc su li nt) (aim2 tg kp ki sc su li nt) (aim3 tg kp ki sc su li nt) (0 : Int) (aim4 tg kp ki sc su li nt) (0 : Int)) (false, (0 : Int), (0 : Int))) && (Nat.beq (Prod.fst (cam_g (l, aim0 (aim0 tg kp ki sc su li nt) (aim1 tg kp ki sc su li nt) (aim2 tg kp ki sc su li nt) (aim3 tg kp ki sc su li nt) (0 : Int) (aim4 tg kp ki sc su li nt) (0 : Int), aim1 (aim0 tg kp ki sc su li nt) (aim1 tg kp ki sc su li nt) (aim2 tg kp ki sc su li nt) (aim3 tg kp ki sc su li nt) (0 : Int) (aim4 tg kp ki sc su li nt) (0 : Int), aim2 (aim0 tg kp ki sc su li nt) (aim1 tg kp ki sc su li nt) (aim2 tg kp ki sc su li nt) (aim3 tg kp ki sc su li nt) (0 : Int) (aim4 tg kp ki sc su li nt) (0 : Int), aim3 (aim0 tg kp ki sc su li nt) (aim1 tg kp ki sc su li nt) (aim2 tg kp ki sc su li nt) (aim3 tg kp ki sc su li nt) (0 : Int) (aim4 tg kp ki sc su li nt) (0 : Int), aim4 (aim0 tg kp ki sc su li nt) (aim1 tg kp ki sc su li nt) (aim2 tg kp ki sc su li nt) (aim3 tg kp ki sc su li nt) (0 : Int) (aim4 tg kp ki sc su li nt) (0 : Int)) (false, (0 : Int), (0 : Int)))) (1 : Nat)))))))) (.ret (.one (.v false (.bool (bif aim5 tg kp ki sc su li nt != (0 : Int) then   bif       bif aim5 tg kp ki sc su li nt == (1 : Int) then         match true with         | true => aim0 tg kp ki sc su li nt == (0 : Int) && (aim1 tg kp ki sc su li nt == (0 : Int) && (aim2 tg kp ki sc su li nt == (0 : Int) && (aim3 tg kp ki sc su li nt == (0 : Int) && ((0 : Int) == (0 : Int) && (aim4 tg kp ki sc su li nt == (0 : Int) && true)))))         | false => !(aim0 tg kp ki sc su li nt == (0 : Int) && (aim1 tg kp ki sc su li nt == (0 : Int) && (aim2 tg kp ki sc su li nt == (0 : Int) && (aim3 tg kp ki sc su li nt == (0 : Int) && ((0 : Int) == (0 : Int) && (aim4 tg kp ki sc su li nt == (0 : Int) && true))))))       else false then     true   else false else bif bif bif bif bif bif bif aim0 tg kp ki sc su li nt != nt then true else (0 : Int) != (0 : Int) then true else aim1 tg kp ki sc su li nt != kp then true else aim2 tg kp ki sc su li nt != ki then true else aim3 tg kp ki sc su li nt != sc then true else aim4 tg kp ki sc su li nt != li then true else !cval (aim0 tg kp ki sc su li nt) (aim1 tg kp ki sc su li nt) (aim2 tg kp ki sc su li nt) (aim3 tg kp ki sc su li nt) (0 : Int) (aim4 tg kp ki sc su li nt) then false else bif aim5 (aim0 tg kp ki sc su li nt) (aim1 tg kp ki sc su li nt) (aim2 tg kp ki sc su li nt) (aim3 tg kp ki sc su li nt) (0 : Int) (aim4 tg kp ki sc su li nt) (0 : Int) != (0 : Int) then false else true))))) (.bad 116)) := by
  cases q : (bif bif !cval tg kp ki sc su li then true else decide (nt < (0 : Int)) then true else decide (nt > (400000 : Int)))
  · obtain ⟨p0, p1, p2, p3, p4, p5⟩ := aim_fine q
    have v1 : cval nt kp ki sc 0 li = true := by
      simp [cval] at q ⊢; omega
    obtain ⟨s0, s1, s2, s3, s4, s5⟩ := aim_fine (tg := nt) (kp := kp) (ki := ki) (sc := sc) (su := 0) (li := li) (nt := 0) (by rw [v1]; rfl)
    have hc : cam_cond (l, 0, kp, ki, sc, li) (false, 0, 0) = true := by simp [cam_cond]
    have A : (cam_g (l, 0, kp, ki, sc, li) (false, 0, 0)).1 = 1 := (cam_all _ _ hc).2
    simp only [p0, p1, p2, p3, p4, p5, s0, s1, s2, s3, s4, s5, v1, hc, A]
    simp [Tr.all]
  · obtain ⟨p0, p1, p2, p3, p4, p5⟩ := aim_bad q
    simp only [p0, p1, p2, p3, p4, p5]
    simp [Tr.all]
set_option maxHeartbeats 4000000 in
theorem law_ControlAims (v0 : Value) (x0 : ((.prod (.int .i64) (.prod (.int .i64) (.prod (.int .i64) (.prod (.int .i64) (.prod (.int .i64) (.int .i64)))))) : Ty).den) (r0 : Ty.InR (.prod (.int .i64) (.prod (.int .i64) (.prod (.int .i64) (.prod (.int .i64) (.prod (.int .i64) (.int .i64)))))) x0) (nt : Int) (l1 : -9223372036854775808 ≤ nt) (g1 : nt ≤ 9223372036854775807) (v2 : Value) (x2 : ((.list (.int .i64)) : Ty).den) (r2 : Ty.InR (.list (.int .i64)) x2) (z_w : World) (i0 : (AV.ag (Ty.cells false (.prod (.int .i64) (.prod (.int .i64) (.prod (.int .i64) (.prod (.int .i64) (.prod (.int .i64) (.int .i64)))))) x0)).is [] (fun _ => none) (fun b => b < z_w.heap.size) z_w v0) (i2 : (AV.one (.d false false (.int .i64) x2)).is [] (fun _ => none) (fun b => b < z_w.heap.size) z_w v2) : Calls Try.prog 4 #[v0, .int .i64 nt, v2] z_w fun e w' => e = .returned (.bool true) ∧ Ext z_w w' := by
  obtain ⟨tg, ⟨kp, ⟨ki, ⟨sc, ⟨su, li⟩⟩⟩⟩⟩ := x0
  obtain ⟨l, rfl⟩ : ∃ y, y = x2 := ⟨_, rfl⟩
  refine law_of_tree (by kernel_rfl) (crA_S11_ok) (crC_L51_ok) (law_ControlAims_tree tg kp ki sc su li nt l) (law_ControlAims_all tg kp ki sc su li nt l r0 r2 l1 g1) rfl z_w _ _ (fun _ h => h) ⟨_, _, rfl, i0, ⟨_, _, rfl, rfl, ⟨_, _, rfl, i2, rfl⟩⟩⟩
end Go.Proofs.Ytbfkddnehdoliaa
