/-
  Layer 44: choose, by itself.
-/
import Derived.Test.YtaidlflnkdamkaaProg
import Derived.Test.YtaidlflnkdamkaaFvX
import Derived.Test.YtaidlflnkdamkaaFvZ
import Derived.Test.YtaidlflnkdamkaaAut
import Derived.Test.YtaidlflnkdamkaaAbA
namespace Go.Proofs.Ytaidlflnkdamkaa
open Go
abbrev cho0_U : Type := (Ty.list (.prod (.prod (.int .i64) (.prod (.int .i64) (.prod (.int .i64) (.int .i64)))) (.prod (.int .i64) (.prod (.int .i64) (.prod (.int .i64) (.int .i64)))))).den × (Ty.list (.int .i64)).den
abbrev cho0_V : Type := Int × (Ty.list (.int .i64)).den
def cho0_St (u : cho0_U) (v : cho0_V) : Stt := ⟨[.one (.d false false (.prod (.prod (.int .i64) (.prod (.int .i64) (.prod (.int .i64) (.int .i64)))) (.prod (.int .i64) (.prod (.int .i64) (.prod (.int .i64) (.int .i64))))) u.1), .one (.d false false (.int .i64) u.2), .one .junk, .one .junk, .one .junk, .one .junk, .one (.v false (Value.slice none (0 : Nat) (0 : Nat))), .one (.s false 4 0 (none)), .one (.v false (.int .i64 v.1)), .one .junk, .one .junk, .one .junk, .one .junk, .one .junk, .one .junk, .one .junk, .one .junk, .one .junk, .one .junk, .one .junk, .one .junk, .one .junk, .one .junk, .one .junk, .one .junk, .one .junk, .one .junk, .one .junk, .one .junk, .one .junk, .one .junk, .one .junk, .one .junk, .one .junk, .one .junk, .one .junk, .one .junk, .one .junk, .one .junk, .one .junk, .one .junk, .one .junk, .one .junk, .one .junk, .one .junk, .one .junk, .one .junk, .one .junk, .one .junk, .one .junk, .one .junk, .one .junk, .one .junk, .one .junk, .one .junk, .one .junk, .one .junk, .one .junk, .one .junk, .one .junk, .one .junk, .one .junk, .one .junk, .one .junk, .one .junk, .one .junk, .one .junk, .one .junk, .one .junk, .one .junk, .one .junk, .one .junk, .one .junk, .one .junk, .one .junk, .one .junk, .one .junk, .one .junk, .one .junk, .one .junk, .one .junk, .one .junk, .one .junk, .one .junk, .one .junk, .one .junk, .one .junk, .one .junk, .one .junk, .one .junk, .one .junk, .one .junk, .one .junk, .one .junk, .one .junk, .one .junk], [(4, .row true false false 3 (.int .i64) v.2)], 1011⟩
def el_i (l : (Ty.list (Ty.int IntKind.i64)).den) (i : Int) : Int := elm (Ty.int IntKind.i64) l i
def el_iiiiiiii (l : (Ty.list (Ty.prod (Ty.prod (Ty.int IntKind.i64) (Ty.prod (Ty.int IntKind.i64) (Ty.prod (Ty.int IntKind.i64) (Ty.int IntKind.i64)))) (Ty.prod (Ty.int IntKind.i64) (Ty.prod (Ty.int IntKind.i64) (Ty.prod (Ty.int IntKind.i64) (Ty.int IntKind.i64)))))).den) (i : Int) : ((Int × (Int × (Int × Int))) × (Int × (Int × (Int × Int)))) := elm (Ty.prod (Ty.prod (Ty.int IntKind.i64) (Ty.prod (Ty.int IntKind.i64) (Ty.prod (Ty.int IntKind.i64) (Ty.int IntKind.i64)))) (Ty.prod (Ty.int IntKind.i64) (Ty.prod (Ty.int IntKind.i64) (Ty.prod (Ty.int IntKind.i64) (Ty.int IntKind.i64))))) l i
def cho0_step (u : cho0_U) (v : cho0_V) : Tr (cho0_V ⊕ (Nat × cho0_V)) :=
  match u, v with
  | (q0, q1), (q2, q3) => .br (decide (q2 < ↑(List.length q0))) (.br (decide ((0 : Int) ≤ IntKind.wrap IntKind.i64 (q2 - (1 : Int))) && decide (IntKind.wrap IntKind.i64 (q2 - (1 : Int)) < ↑(List.length q0))) (.br (decide ((0 : Int) ≤ q2) && decide (q2 < ↑(List.length q0))) (.br (decide ((0 : Int) ≤ q2) && decide (q2 < ↑(List.length q1))) (.br (decide ((0 : Int) ≤ q2) && decide (q2 < ↑(List.length q3))) (.br (decide (Int.toNat q2 < List.length q3)) (.ret (.inl (IntKind.wrap IntKind.i64 (q2 + (1 : Int)), List.set q3 (Int.toNat q2) (if el_i q1 q2 < if Prod.fst (Prod.snd (Prod.snd (Prod.snd (el_iiiiiiii q0 q2)))) < Prod.fst (Prod.snd (Prod.snd (Prod.snd (el_iiiiiiii q0 (IntKind.wrap IntKind.i64 (q2 - (1 : Int))))))) then Prod.fst (Prod.snd (Prod.snd (Prod.snd (el_iiiiiiii q0 q2)))) else Prod.fst (Prod.snd (Prod.snd (Prod.snd (el_iiiiiiii q0 (IntKind.wrap IntKind.i64 (q2 - (1 : Int))))))) then el_i q1 q2 else if Prod.fst (Prod.snd (Prod.snd (Prod.snd (el_iiiiiiii q0 q2)))) < Prod.fst (Prod.snd (Prod.snd (Prod.snd (el_iiiiiiii q0 (IntKind.wrap IntKind.i64 (q2 - (1 : Int))))))) then Prod.fst (Prod.snd (Prod.snd (Prod.snd (el_iiiiiiii q0 q2)))) else Prod.fst (Prod.snd (Prod.snd (Prod.snd (el_iiiiiiii q0 (IntKind.wrap IntKind.i64 (q2 - (1 : Int))))))))))) (.bad 19)) (.bad 31)) (.bad 29)) (.bad 29)) (.bad 29)) (.ret (.inr (0, (q2, q3))))
set_option maxRecDepth 100000 in
set_option maxHeartbeats 4000000 in
theorem cho0_step_eq : ∀ (u : cho0_U) (v : cho0_V), (evalC Try.prog (evalB Try.prog abA_S12 (opens []) L0 7).1 (evalB Try.prog abA_S12 (opens []) L0 7).2 (opens []) (L0 46) 100000 (0 :: [0, 1, 0, 1, 1, 1]) (loopOf (bodyOf Try.prog 46) [1, 1, 1, 0, 1, 0]) (cho0_St u v) []).bind (finF [2, 3, 4, 5, 9, 10, 11, 12, 13, 14, 15, 16, 17, 18, 19, 20, 21, 22, 23, 24, 25, 26, 27, 28, 29, 30, 31, 32, 33, 34, 35, 36, 37, 38, 39, 40, 41, 42, 43, 44, 45, 46, 47, 48, 49, 50, 51, 52, 53, 54, 55, 56, 57, 58, 59, 60, 61, 62, 63, 64, 65, 66, 67, 68, 69, 70, 71, 72, 73, 74, 75, 76, 77, 78, 79, 80, 81, 82, 83, 84, 85, 86, 87, 88, 89, 90, 91, 92, 93, 94, 95] [] [4] [] 1011) = (cho0_step u v).bind (outA (cho0_St u) [.exit 0]) := by
  rintro ⟨q0, q1⟩ ⟨q2, q3⟩
  kernel_rfl
def cho0_rd (b : Bool) (tm : List (Option AV)) (own : Own) : Option (cho0_U × cho0_V) :=
  match b, tm, own with
  | true, [some (.one (.d false false (.prod (.prod (.int .i64) (.prod (.int .i64) (.prod (.int .i64) (.int .i64)))) (.prod (.int .i64) (.prod (.int .i64) (.prod (.int .i64) (.int .i64))))) q0)), some (.one (.d false false (.int .i64) q1)), some (.one (.v false (Value.slice none (0 : Nat) (0 : Nat)))), some (.one (.s false 4 0 (none))), some (.one (.v false (.int .i64 q2)))], [(4, .row true false false 3 (.int .i64) q3)] => some ((q0, q1), (q2, q3))
  | _, _, _ => none
def cho0_can (st : Stt) : Stt := canA [2, 3, 4, 5, 9, 10, 11, 12, 13, 14, 15, 16, 17, 18, 19, 20, 21, 22, 23, 24, 25, 26, 27, 28, 29, 30, 31, 32, 33, 34, 35, 36, 37, 38, 39, 40, 41, 42, 43, 44, 45, 46, 47, 48, 49, 50, 51, 52, 53, 54, 55, 56, 57, 58, 59, 60, 61, 62, 63, 64, 65, 66, 67, 68, 69, 70, 71, 72, 73, 74, 75, 76, 77, 78, 79, 80, 81, 82, 83, 84, 85, 86, 87, 88, 89, 90, 91, 92, 93, 94, 95] [] [4] [] 1011 st
def cho0_cok (st : Stt) : Bool := canAok [2, 3, 4, 5, 9, 10, 11, 12, 13, 14, 15, 16, 17, 18, 19, 20, 21, 22, 23, 24, 25, 26, 27, 28, 29, 30, 31, 32, 33, 34, 35, 36, 37, 38, 39, 40, 41, 42, 43, 44, 45, 46, 47, 48, 49, 50, 51, 52, 53, 54, 55, 56, 57, 58, 59, 60, 61, 62, 63, 64, 65, 66, 67, 68, 69, 70, 71, 72, 73, 74, 75, 76, 77, 78, 79, 80, 81, 82, 83, 84, 85, 86, 87, 88, 89, 90, 91, 92, 93, 94, 95] [] [4] [] 1011 st
def cho0_read (st : Stt) : Option (cho0_U × cho0_V) := cho0_rd (cho0_cok st && (staysA [] [4] st.own && juAll [2, 3, 4, 5, 9, 10, 11, 12, 13, 14, 15, 16, 17, 18, 19, 20, 21, 22, 23, 24, 25, 26, 27, 28, 29, 30, 31, 32, 33, 34, 35, 36, 37, 38, 39, 40, 41, 42, 43, 44, 45, 46, 47, 48, 49, 50, 51, 52, 53, 54, 55, 56, 57, 58, 59, 60, 61, 62, 63, 64, 65, 66, 67, 68, 69, 70, 71, 72, 73, 74, 75, 76, 77, 78, 79, 80, 81, 82, 83, 84, 85, 86, 87, 88, 89, 90, 91, 92, 93, 94, 95] (cho0_can st).tm 96)) [(cho0_can st).tm[0]?, (cho0_can st).tm[1]?, (cho0_can st).tm[6]?, (cho0_can st).tm[7]?, (cho0_can st).tm[8]?] (cho0_can st).own
set_option maxRecDepth 100000 in
set_option maxHeartbeats 4000000 in
theorem cho0_rd_ok {b : Bool} {tm : List AV} {own : Own} {u : cho0_U} {v : cho0_V} (hj : b = true → juAll [2, 3, 4, 5, 9, 10, 11, 12, 13, 14, 15, 16, 17, 18, 19, 20, 21, 22, 23, 24, 25, 26, 27, 28, 29, 30, 31, 32, 33, 34, 35, 36, 37, 38, 39, 40, 41, 42, 43, 44, 45, 46, 47, 48, 49, 50, 51, 52, 53, 54, 55, 56, 57, 58, 59, 60, 61, 62, 63, 64, 65, 66, 67, 68, 69, 70, 71, 72, 73, 74, 75, 76, 77, 78, 79, 80, 81, 82, 83, 84, 85, 86, 87, 88, 89, 90, 91, 92, 93, 94, 95] tm 96 = true) (h : cho0_rd b [tm[0]?, tm[1]?, tm[6]?, tm[7]?, tm[8]?] own = some (u, v)) : b = true ∧ tm = (cho0_St u v).tm ∧ own = (cho0_St u v).own := by
  unfold cho0_rd at h
  split at h
  · rename_i q0 q1 q2 q3 ht
    simp only [List.cons.injEq, and_true] at ht
    have h := Option.some.inj h
    have hu := congrArg Prod.fst h
    have hv := congrArg Prod.snd h
    dsimp only at hu hv
    subst hu
    subst hv
    refine ⟨rfl, (tm_fill (hj rfl) (Lv := [(0, .one (.d false false (.prod (.prod (.int .i64) (.prod (.int .i64) (.prod (.int .i64) (.int .i64)))) (.prod (.int .i64) (.prod (.int .i64) (.prod (.int .i64) (.int .i64))))) q0)), (1, .one (.d false false (.int .i64) q1)), (6, .one (.v false (Value.slice none (0 : Nat) (0 : Nat)))), (7, .one (.s false 4 0 (none))), (8, .one (.v false (.int .i64 q2)))]) (by kernel_rfl) (by simp only [allGet, ht, and_true])).trans (by kernel_rfl), rfl⟩
  · cases h
theorem cho0_read_ok (st : Stt) (u : cho0_U) (v : cho0_V) (h : cho0_read st = some (u, v)) : cho0_cok st = true ∧ staysA [] [4] st.own = true ∧ cho0_can st = cho0_St u v := by
  obtain ⟨h1, h2, h3⟩ := cho0_rd_ok (fun hb => by rw [Bool.and_eq_true, Bool.and_eq_true] at hb; exact hb.2.2) h
  rw [Bool.and_eq_true, Bool.and_eq_true] at h1
  refine ⟨h1.1, h1.2.1, ?_⟩
  have e : cho0_can st = ⟨(cho0_can st).tm, (cho0_can st).own, 1011⟩ := by kernel_rfl
  rw [e, h2, h3]
  rfl
noncomputable def cho0_cond (u : cho0_U) (v : cho0_V) : Bool := runC (cho0_step u) v
noncomputable def cho0_g (u : cho0_U) (v : cho0_V) : Nat × cho0_V := runG (cho0_step u) v
theorem cho0_hg : ∀ (u : cho0_U) (v : cho0_V), cho0_cond u v = true → loopN (cho0_step u) ((fun u v => runF (cho0_step u) v) u v) v = some (cho0_g u v) := by
  exact fun u v h => run_hg h
noncomputable def cho0_m (st : Stt) : Option (Tr (Ex × Stt)) := sumM cho0_read cho0_cond cho0_St cho0_g [(0, .exit 0)] st
noncomputable def abB_L61 : FuncId → Loops := addL 46 [0, 1, 0, 1, 1, 1] cho0_m L0
set_option maxRecDepth 100000 in
set_option maxHeartbeats 4000000 in
theorem abB_L61_ok : LoopsOK Try.prog abB_L61 :=
  loop_sumF (body := (bodyOf Try.prog 46)) (c := (loopOf (bodyOf Try.prog 46) [1, 1, 1, 0, 1, 0])) (kinds := [.exit 0]) (allow := [(0, .exit 0)]) (St := cho0_St) (step := cho0_step) (W := [2, 3, 4, 5, 9, 10, 11, 12, 13, 14, 15, 16, 17, 18, 19, 20, 21, 22, 23, 24, 25, 26, 27, 28, 29, 30, 31, 32, 33, 34, 35, 36, 37, 38, 39, 40, 41, 42, 43, 44, 45, 46, 47, 48, 49, 50, 51, 52, 53, 54, 55, 56, 57, 58, 59, 60, 61, 62, 63, 64, 65, 66, 67, 68, 69, 70, 71, 72, 73, 74, 75, 76, 77, 78, 79, 80, 81, 82, 83, 84, 85, 86, 87, 88, 89, 90, 91, 92, 93, 94, 95]) (As := []) (ks := [4]) (dd := []) (nx := 1011) (n := 100000) (g := cho0_g) (cond := cho0_cond) (fuel := (fun u v => runF (cho0_step u) v)) (read := cho0_read) (by kernel_rfl) (abA_S12_ok) (L0_ok _) 7 ⟨Try.f46, by kernel_rfl, by kernel_rfl⟩ (by kernel_rfl) (by kernel_rfl) (by kernel_rfl) cho0_step_eq cho0_hg cho0_read_ok
abbrev cho1_U : Type := (Ty.list (.prod (.prod (.int .i64) (.prod (.int .i64) (.prod (.int .i64) (.int .i64)))) (.prod (.int .i64) (.prod (.int .i64) (.prod (.int .i64) (.int .i64)))))).den
abbrev cho1_V : Type := Int × (Ty.list (.int .i64)).den
def cho1_St (u : cho1_U) (v : cho1_V) : Stt := ⟨[.one (.d false false (.prod (.prod (.int .i64) (.prod (.int .i64) (.prod (.int .i64) (.int .i64)))) (.prod (.int .i64) (.prod (.int .i64) (.prod (.int .i64) (.int .i64))))) u), .one .junk, .one .junk, .one .junk, .one .junk, .one .junk, .one (.v false (Value.slice none (0 : Nat) (0 : Nat))), .one (.s false 4 0 (none)), .one .junk, .one (.v false (.int .i64 v.1)), .one .junk, .one .junk, .one .junk, .one .junk, .one .junk, .one .junk, .one .junk, .one .junk, .one .junk, .one .junk, .one .junk, .one .junk, .one .junk, .one .junk, .one .junk, .one .junk, .one .junk, .one .junk, .one .junk, .one .junk, .one .junk, .one .junk, .one .junk, .one .junk, .one .junk, .one .junk, .one .junk, .one .junk, .one .junk, .one .junk, .one .junk, .one .junk, .one .junk, .one .junk, .one .junk, .one .junk, .one .junk, .one .junk, .one .junk, .one .junk, .one .junk, .one .junk, .one .junk, .one .junk, .one .junk, .one .junk, .one .junk, .one .junk, .one .junk, .one .junk, .one .junk, .one .junk, .one .junk, .one .junk, .one .junk, .one .junk, .one .junk, .one .junk, .one .junk, .one .junk, .one .junk, .one .junk, .one .junk, .one .junk, .one .junk, .one .junk, .one .junk, .one .junk, .one .junk, .one .junk, .one .junk, .one .junk, .one .junk, .one .junk, .one .junk, .one .junk, .one .junk, .one .junk, .one .junk, .one .junk, .one .junk, .one .junk, .one .junk, .one .junk, .one .junk, .one .junk], [(4, .row true false false 3 (.int .i64) v.2)], 2015⟩
def cho1_step (u : cho1_U) (v : cho1_V) : Tr (cho1_V ⊕ (Nat × cho1_V)) :=
  match u, v with
  | q0, (q1, q2) => .br (decide (q1 ≥ (0 : Int))) (.br (decide ((0 : Int) ≤ q1) && decide (q1 < ↑(List.length q2))) (.br (decide (Int.toNat q1 < List.length q2)) (.br (decide ((0 : Int) ≤ IntKind.wrap IntKind.i64 (q1 + (1 : Int))) && decide (IntKind.wrap IntKind.i64 (q1 + (1 : Int)) < ↑(List.length q2))) (.br (decide (Int.toNat (IntKind.wrap IntKind.i64 (q1 + (1 : Int))) < List.length q2)) (.br (decide ((0 : Int) ≤ q1) && decide (q1 < ↑(List.length q0))) (.br (decide ((0 : Int) ≤ q1) && decide (q1 < ↑(List.length q2))) (.br (decide (Int.toNat q1 < List.length q2)) (.ret (.inl (IntKind.wrap IntKind.i64 (q1 - (1 : Int)), List.set q2 (Int.toNat q1) (if IntKind.wrap IntKind.i64 (el_i q2 (IntKind.wrap IntKind.i64 (q1 + (1 : Int))) + reach (Prod.fst (Prod.fst (el_iiiiiiii q0 q1))) (Prod.fst (Prod.snd (Prod.fst (el_iiiiiiii q0 q1)))) (Prod.fst (Prod.snd (Prod.snd (Prod.fst (el_iiiiiiii q0 q1))))) (Prod.snd (Prod.snd (Prod.snd (Prod.fst (el_iiiiiiii q0 q1))))) (Prod.fst (Prod.snd (el_iiiiiiii q0 q1)))) < el_i q2 q1 then IntKind.wrap IntKind.i64 (el_i q2 (IntKind.wrap IntKind.i64 (q1 + (1 : Int))) + reach (Prod.fst (Prod.fst (el_iiiiiiii q0 q1))) (Prod.fst (Prod.snd (Prod.fst (el_iiiiiiii q0 q1)))) (Prod.fst (Prod.snd (Prod.snd (Prod.fst (el_iiiiiiii q0 q1))))) (Prod.snd (Prod.snd (Prod.snd (Prod.fst (el_iiiiiiii q0 q1))))) (Prod.fst (Prod.snd (el_iiiiiiii q0 q1)))) else el_i q2 q1)))) (.bad 19)) (.bad 31)) (.bad 29)) (.bad 12)) (.bad 31)) (.bad 12)) (.bad 31)) (.ret (.inr (0, (q1, q2))))
set_option maxRecDepth 100000 in
set_option maxHeartbeats 4000000 in
theorem cho1_step_eq : ∀ (u : cho1_U) (v : cho1_V), (evalC Try.prog (evalB Try.prog abA_S12 (opens []) abB_L61 7).1 (evalB Try.prog abA_S12 (opens []) abB_L61 7).2 (opens []) (abB_L61 46) 100000 (0 :: [0, 1, 0, 1, 1, 1, 1]) (loopOf (bodyOf Try.prog 46) [1, 1, 1, 1, 0, 1, 0]) (cho1_St u v) []).bind (finF [1, 2, 3, 4, 5, 8, 10, 11, 12, 13, 14, 15, 16, 17, 18, 19, 20, 21, 22, 23, 24, 25, 26, 27, 28, 29, 30, 31, 32, 33, 34, 35, 36, 37, 38, 39, 40, 41, 42, 43, 44, 45, 46, 47, 48, 49, 50, 51, 52, 53, 54, 55, 56, 57, 58, 59, 60, 61, 62, 63, 64, 65, 66, 67, 68, 69, 70, 71, 72, 73, 74, 75, 76, 77, 78, 79, 80, 81, 82, 83, 84, 85, 86, 87, 88, 89, 90, 91, 92, 93, 94, 95] [] [4] [] 2015) = (cho1_step u v).bind (outA (cho1_St u) [.exit 2]) := by
  rintro q0 ⟨q1, q2⟩
  kernel_rfl
def cho1_rd (b : Bool) (tm : List (Option AV)) (own : Own) : Option (cho1_U × cho1_V) :=
  match b, tm, own with
  | true, [some (.one (.d false false (.prod (.prod (.int .i64) (.prod (.int .i64) (.prod (.int .i64) (.int .i64)))) (.prod (.int .i64) (.prod (.int .i64) (.prod (.int .i64) (.int .i64))))) q0)), some (.one (.v false (Value.slice none (0 : Nat) (0 : Nat)))), some (.one (.s false 4 0 (none))), some (.one (.v false (.int .i64 q1)))], [(4, .row true false false 3 (.int .i64) q2)] => some (q0, (q1, q2))
  | _, _, _ => none
def cho1_can (st : Stt) : Stt := canA [1, 2, 3, 4, 5, 8, 10, 11, 12, 13, 14, 15, 16, 17, 18, 19, 20, 21, 22, 23, 24, 25, 26, 27, 28, 29, 30, 31, 32, 33, 34, 35, 36, 37, 38, 39, 40, 41, 42, 43, 44, 45, 46, 47, 48, 49, 50, 51, 52, 53, 54, 55, 56, 57, 58, 59, 60, 61, 62, 63, 64, 65, 66, 67, 68, 69, 70, 71, 72, 73, 74, 75, 76, 77, 78, 79, 80, 81, 82, 83, 84, 85, 86, 87, 88, 89, 90, 91, 92, 93, 94, 95] [] [4] [] 2015 st
def cho1_cok (st : Stt) : Bool := canAok [1, 2, 3, 4, 5, 8, 10, 11, 12, 13, 14, 15, 16, 17, 18, 19, 20, 21, 22, 23, 24, 25, 26, 27, 28, 29, 30, 31, 32, 33, 34, 35, 36, 37, 38, 39, 40, 41, 42, 43, 44, 45, 46, 47, 48, 49, 50, 51, 52, 53, 54, 55, 56, 57, 58, 59, 60, 61, 62, 63, 64, 65, 66, 67, 68, 69, 70, 71, 72, 73, 74, 75, 76, 77, 78, 79, 80, 81, 82, 83, 84, 85, 86, 87, 88, 89, 90, 91, 92, 93, 94, 95] [] [4] [] 2015 st
def cho1_read (st : Stt) : Option (cho1_U × cho1_V) := cho1_rd (cho1_cok st && (staysA [] [4] st.own && juAll [1, 2, 3, 4, 5, 8, 10, 11, 12, 13, 14, 15, 16, 17, 18, 19, 20, 21, 22, 23, 24, 25, 26, 27, 28, 29, 30, 31, 32, 33, 34, 35, 36, 37, 38, 39, 40, 41, 42, 43, 44, 45, 46, 47, 48, 49, 50, 51, 52, 53, 54, 55, 56, 57, 58, 59, 60, 61, 62, 63, 64, 65, 66, 67, 68, 69, 70, 71, 72, 73, 74, 75, 76, 77, 78, 79, 80, 81, 82, 83, 84, 85, 86, 87, 88, 89, 90, 91, 92, 93, 94, 95] (cho1_can st).tm 96)) [(cho1_can st).tm[0]?, (cho1_can st).tm[6]?, (cho1_can st).tm[7]?, (cho1_can st).tm[9]?] (cho1_can st).own
set_option maxRecDepth 100000 in
set_option maxHeartbeats 4000000 in
theorem cho1_rd_ok {b : Bool} {tm : List AV} {own : Own} {u : cho1_U} {v : cho1_V} (hj : b = true → juAll [1, 2, 3, 4, 5, 8, 10, 11, 12, 13, 14, 15, 16, 17, 18, 19, 20, 21, 22, 23, 24, 25, 26, 27, 28, 29, 30, 31, 32, 33, 34, 35, 36, 37, 38, 39, 40, 41, 42, 43, 44, 45, 46, 47, 48, 49, 50, 51, 52, 53, 54, 55, 56, 57, 58, 59, 60, 61, 62, 63, 64, 65, 66, 67, 68, 69, 70, 71, 72, 73, 74, 75, 76, 77, 78, 79, 80, 81, 82, 83, 84, 85, 86, 87, 88, 89, 90, 91, 92, 93, 94, 95] tm 96 = true) (h : cho1_rd b [tm[0]?, tm[6]?, tm[7]?, tm[9]?] own = some (u, v)) : b = true ∧ tm = (cho1_St u v).tm ∧ own = (cho1_St u v).own := by
  unfold cho1_rd at h
  split at h
  · rename_i q0 q1 q2 ht
    simp only [List.cons.injEq, and_true] at ht
    have h := Option.some.inj h
    have hu := congrArg Prod.fst h
    have hv := congrArg Prod.snd h
    dsimp only at hu hv
    subst hu
    subst hv
    refine ⟨rfl, (tm_fill (hj rfl) (Lv := [(0, .one (.d false false (.prod (.prod (.int .i64) (.prod (.int .i64) (.prod (.int .i64) (.int .i64)))) (.prod (.int .i64) (.prod (.int .i64) (.prod (.int .i64) (.int .i64))))) q0)), (6, .one (.v false (Value.slice none (0 : Nat) (0 : Nat)))), (7, .one (.s false 4 0 (none))), (9, .one (.v false (.int .i64 q1)))]) (by kernel_rfl) (by simp only [allGet, ht, and_true])).trans (by kernel_rfl), rfl⟩
  · cases h
theorem cho1_read_ok (st : Stt) (u : cho1_U) (v : cho1_V) (h : cho1_read st = some (u, v)) : cho1_cok st = true ∧ staysA [] [4] st.own = true ∧ cho1_can st = cho1_St u v := by
  obtain ⟨h1, h2, h3⟩ := cho1_rd_ok (fun hb => by rw [Bool.and_eq_true, Bool.and_eq_true] at hb; exact hb.2.2) h
  rw [Bool.and_eq_true, Bool.and_eq_true] at h1
  refine ⟨h1.1, h1.2.1, ?_⟩
  have e : cho1_can st = ⟨(cho1_can st).tm, (cho1_can st).own, 2015⟩ := by kernel_rfl
  rw [e, h2, h3]
  rfl
noncomputable def cho1_cond (u : cho1_U) (v : cho1_V) : Bool := runC (cho1_step u) v
noncomputable def cho1_g (u : cho1_U) (v : cho1_V) : Nat × cho1_V := runG (cho1_step u) v
theorem cho1_hg : ∀ (u : cho1_U) (v : cho1_V), cho1_cond u v = true → loopN (cho1_step u) ((fun u v => runF (cho1_step u) v) u v) v = some (cho1_g u v) := by
  exact fun u v h => run_hg h
noncomputable def cho1_m (st : Stt) : Option (Tr (Ex × Stt)) := sumM cho1_read cho1_cond cho1_St cho1_g [(0, .exit 2)] st
noncomputable def abB_L62 : FuncId → Loops := addL 46 [0, 1, 0, 1, 1, 1, 1] cho1_m abB_L61
set_option maxRecDepth 100000 in
set_option maxHeartbeats 4000000 in
theorem abB_L62_ok : LoopsOK Try.prog abB_L62 :=
  loop_sumF (body := (bodyOf Try.prog 46)) (c := (loopOf (bodyOf Try.prog 46) [1, 1, 1, 1, 0, 1, 0])) (kinds := [.exit 2]) (allow := [(0, .exit 2)]) (St := cho1_St) (step := cho1_step) (W := [1, 2, 3, 4, 5, 8, 10, 11, 12, 13, 14, 15, 16, 17, 18, 19, 20, 21, 22, 23, 24, 25, 26, 27, 28, 29, 30, 31, 32, 33, 34, 35, 36, 37, 38, 39, 40, 41, 42, 43, 44, 45, 46, 47, 48, 49, 50, 51, 52, 53, 54, 55, 56, 57, 58, 59, 60, 61, 62, 63, 64, 65, 66, 67, 68, 69, 70, 71, 72, 73, 74, 75, 76, 77, 78, 79, 80, 81, 82, 83, 84, 85, 86, 87, 88, 89, 90, 91, 92, 93, 94, 95]) (As := []) (ks := [4]) (dd := []) (nx := 2015) (n := 100000) (g := cho1_g) (cond := cho1_cond) (fuel := (fun u v => runF (cho1_step u) v)) (read := cho1_read) (by kernel_rfl) (abA_S12_ok) (abB_L61_ok) 7 ⟨Try.f46, by kernel_rfl, by kernel_rfl⟩ (by kernel_rfl) (by kernel_rfl) (by kernel_rfl) cho1_step_eq cho1_hg cho1_read_ok
abbrev cho2_U : Type := (Ty.list (.prod (.prod (.int .i64) (.prod (.int .i64) (.prod (.int .i64) (.int .i64)))) (.prod (.int .i64) (.prod (.int .i64) (.prod (.int .i64) (.int .i64)))))).den × Int
abbrev cho2_V : Type := Int × (Ty.list (.int .i64)).den
def cho2_St (u : cho2_U) (v : cho2_V) : Stt := ⟨[.one .junk, .one .junk, .one .junk, .one .junk, .one .junk, .one .junk, .one (.v false (Value.slice none (0 : Nat) (0 : Nat))), .one (.s false 4 0 (none)), .one .junk, .one .junk, .one .junk, .one .junk, .one .junk, .one .junk, .one .junk, .one .junk, .one .junk, .one .junk, .one .junk, .one .junk, .one .junk, .one .junk, .one .junk, .one .junk, .one .junk, .one .junk, .one .junk, .one .junk, .one .junk, .one .junk, .one .junk, .one .junk, .one .junk, .one .junk, .one .junk, .one .junk, .one .junk, .one .junk, .one .junk, .one .junk, .one .junk, .one .junk, .one .junk, .one .junk, .one .junk, .one .junk, .one .junk, .one .junk, .one .junk, .one .junk, .one .junk, .one .junk, .one .junk, .one .junk, .one .junk, .one .junk, .one .junk, .one .junk, .one .junk, .one .junk, .one .junk, .one .junk, .one .junk, .one .junk, .one .junk, .one .junk, .one .junk, .one .junk, .one .junk, .one .junk, .one (.d false false (.prod (.prod (.int .i64) (.prod (.int .i64) (.prod (.int .i64) (.int .i64)))) (.prod (.int .i64) (.prod (.int .i64) (.prod (.int .i64) (.int .i64))))) u.1), .one (.v false (.int .i64 u.2)), .one (.v false (.int .i64 v.1)), .one .junk, .one .junk, .one .junk, .one .junk, .one .junk, .one .junk, .one .junk, .one .junk, .one .junk, .one .junk, .one .junk, .one .junk, .one .junk, .one .junk, .one .junk, .one .junk, .one .junk, .one .junk, .one .junk, .one .junk, .one .junk, .one .junk, .one .junk], [(4, .row true false false 3 (.int .i64) v.2)], 3018⟩
def cho2_step (u : cho2_U) (v : cho2_V) : Tr (cho2_V ⊕ (Nat × cho2_V)) :=
  match u, v with
  | (q0, q1), (q2, q3) => .br (decide (q2 < q1)) (.br (decide ((0 : Int) ≤ q2) && decide (q2 < ↑(List.length q0))) (.br (decide ((0 : Int) ≤ IntKind.wrap IntKind.i64 (q2 + (1 : Int))) && decide (IntKind.wrap IntKind.i64 (q2 + (1 : Int)) < ↑(List.length q3))) (.br (decide (Int.toNat (IntKind.wrap IntKind.i64 (q2 + (1 : Int))) < List.length q3)) (.br (decide ((0 : Int) ≤ q2) && decide (q2 < ↑(List.length q3))) (.br (decide (Int.toNat q2 < List.length q3)) (.br (decide ((0 : Int) ≤ IntKind.wrap IntKind.i64 (q2 + (1 : Int))) && decide (IntKind.wrap IntKind.i64 (q2 + (1 : Int)) < ↑(List.length q3))) (.br (decide (Int.toNat (IntKind.wrap IntKind.i64 (q2 + (1 : Int))) < List.length q3)) (.ret (.inl (IntKind.wrap IntKind.i64 (q2 + (1 : Int)), List.set q3 (Int.toNat (IntKind.wrap IntKind.i64 (q2 + (1 : Int)))) (if IntKind.wrap IntKind.i64 (el_i q3 q2 + reach (Prod.fst (Prod.fst (el_iiiiiiii q0 q2))) (Prod.fst (Prod.snd (Prod.fst (el_iiiiiiii q0 q2)))) (Prod.fst (Prod.snd (Prod.snd (Prod.fst (el_iiiiiiii q0 q2))))) (Prod.snd (Prod.snd (Prod.snd (Prod.fst (el_iiiiiiii q0 q2))))) (Prod.fst (Prod.snd (el_iiiiiiii q0 q2)))) < el_i q3 (IntKind.wrap IntKind.i64 (q2 + (1 : Int))) then IntKind.wrap IntKind.i64 (el_i q3 q2 + reach (Prod.fst (Prod.fst (el_iiiiiiii q0 q2))) (Prod.fst (Prod.snd (Prod.fst (el_iiiiiiii q0 q2)))) (Prod.fst (Prod.snd (Prod.snd (Prod.fst (el_iiiiiiii q0 q2))))) (Prod.snd (Prod.snd (Prod.snd (Prod.fst (el_iiiiiiii q0 q2))))) (Prod.fst (Prod.snd (el_iiiiiiii q0 q2)))) else el_i q3 (IntKind.wrap IntKind.i64 (q2 + (1 : Int))))))) (.bad 19)) (.bad 31)) (.bad 12)) (.bad 31)) (.bad 12)) (.bad 31)) (.bad 29)) (.ret (.inr (0, (q2, q3))))
set_option maxRecDepth 100000 in
set_option maxHeartbeats 4000000 in
theorem cho2_step_eq : ∀ (u : cho2_U) (v : cho2_V), (evalC Try.prog (evalB Try.prog abA_S12 (opens []) abB_L62 7).1 (evalB Try.prog abA_S12 (opens []) abB_L62 7).2 (opens []) (abB_L62 46) 100000 (0 :: [0, 1, 0, 1, 1, 1, 1, 1]) (loopOf (bodyOf Try.prog 46) [1, 1, 1, 1, 1, 0, 1, 0]) (cho2_St u v) []).bind (finF [0, 1, 2, 3, 4, 5, 8, 9, 10, 11, 12, 13, 14, 15, 16, 17, 18, 19, 20, 21, 22, 23, 24, 25, 26, 27, 28, 29, 30, 31, 32, 33, 34, 35, 36, 37, 38, 39, 40, 41, 42, 43, 44, 45, 46, 47, 48, 49, 50, 51, 52, 53, 54, 55, 56, 57, 58, 59, 60, 61, 62, 63, 64, 65, 66, 67, 68, 69, 73, 74, 75, 76, 77, 78, 79, 80, 81, 82, 83, 84, 85, 86, 87, 88, 89, 90, 91, 92, 93, 94, 95] [] [4] [] 3018) = (cho2_step u v).bind (outA (cho2_St u) [.exit 4]) := by
  rintro ⟨q0, q1⟩ ⟨q2, q3⟩
  kernel_rfl
def cho2_rd (b : Bool) (tm : List (Option AV)) (own : Own) : Option (cho2_U × cho2_V) :=
  match b, tm, own with
  | true, [some (.one (.v false (Value.slice none (0 : Nat) (0 : Nat)))), some (.one (.s false 4 0 (none))), some (.one (.d false false (.prod (.prod (.int .i64) (.prod (.int .i64) (.prod (.int .i64) (.int .i64)))) (.prod (.int .i64) (.prod (.int .i64) (.prod (.int .i64) (.int .i64))))) q0)), some (.one (.v false (.int .i64 q1))), some (.one (.v false (.int .i64 q2)))], [(4, .row true false false 3 (.int .i64) q3)] => some ((q0, q1), (q2, q3))
  | _, _, _ => none
def cho2_can (st : Stt) : Stt := canA [0, 1, 2, 3, 4, 5, 8, 9, 10, 11, 12, 13, 14, 15, 16, 17, 18, 19, 20, 21, 22, 23, 24, 25, 26, 27, 28, 29, 30, 31, 32, 33, 34, 35, 36, 37, 38, 39, 40, 41, 42, 43, 44, 45, 46, 47, 48, 49, 50, 51, 52, 53, 54, 55, 56, 57, 58, 59, 60, 61, 62, 63, 64, 65, 66, 67, 68, 69, 73, 74, 75, 76, 77, 78, 79, 80, 81, 82, 83, 84, 85, 86, 87, 88, 89, 90, 91, 92, 93, 94, 95] [] [4] [] 3018 st
def cho2_cok (st : Stt) : Bool := canAok [0, 1, 2, 3, 4, 5, 8, 9, 10, 11, 12, 13, 14, 15, 16, 17, 18, 19, 20, 21, 22, 23, 24, 25, 26, 27, 28, 29, 30, 31, 32, 33, 34, 35, 36, 37, 38, 39, 40, 41, 42, 43, 44, 45, 46, 47, 48, 49, 50, 51, 52, 53, 54, 55, 56, 57, 58, 59, 60, 61, 62, 63, 64, 65, 66, 67, 68, 69, 73, 74, 75, 76, 77, 78, 79, 80, 81, 82, 83, 84, 85, 86, 87, 88, 89, 90, 91, 92, 93, 94, 95] [] [4] [] 3018 st
def cho2_read (st : Stt) : Option (cho2_U × cho2_V) := cho2_rd (cho2_cok st && (staysA [] [4] st.own && juAll [0, 1, 2, 3, 4, 5, 8, 9, 10, 11, 12, 13, 14, 15, 16, 17, 18, 19, 20, 21, 22, 23, 24, 25, 26, 27, 28, 29, 30, 31, 32, 33, 34, 35, 36, 37, 38, 39, 40, 41, 42, 43, 44, 45, 46, 47, 48, 49, 50, 51, 52, 53, 54, 55, 56, 57, 58, 59, 60, 61, 62, 63, 64, 65, 66, 67, 68, 69, 73, 74, 75, 76, 77, 78, 79, 80, 81, 82, 83, 84, 85, 86, 87, 88, 89, 90, 91, 92, 93, 94, 95] (cho2_can st).tm 96)) [(cho2_can st).tm[6]?, (cho2_can st).tm[7]?, (cho2_can st).tm[70]?, (cho2_can st).tm[71]?, (cho2_can st).tm[72]?] (cho2_can st).own
set_option maxRecDepth 100000 in
set_option maxHeartbeats 4000000 in
theorem cho2_rd_ok {b : Bool} {tm : List AV} {own : Own} {u : cho2_U} {v : cho2_V} (hj : b = true → juAll [0, 1, 2, 3, 4, 5, 8, 9, 10, 11, 12, 13, 14, 15, 16, 17, 18, 19, 20, 21, 22, 23, 24, 25, 26, 27, 28, 29, 30, 31, 32, 33, 34, 35, 36, 37, 38, 39, 40, 41, 42, 43, 44, 45, 46, 47, 48, 49, 50, 51, 52, 53, 54, 55, 56, 57, 58, 59, 60, 61, 62, 63, 64, 65, 66, 67, 68, 69, 73, 74, 75, 76, 77, 78, 79, 80, 81, 82, 83, 84, 85, 86, 87, 88, 89, 90, 91, 92, 93, 94, 95] tm 96 = true) (h : cho2_rd b [tm[6]?, tm[7]?, tm[70]?, tm[71]?, tm[72]?] own = some (u, v)) : b = true ∧ tm = (cho2_St u v).tm ∧ own = (cho2_St u v).own := by
  unfold cho2_rd at h
  split at h
  · rename_i q0 q1 q2 q3 ht
    simp only [List.cons.injEq, and_true] at ht
    have h := Option.some.inj h
    have hu := congrArg Prod.fst h
    have hv := congrArg Prod.snd h
    dsimp only at hu hv
    subst hu
    subst hv
    refine ⟨rfl, (tm_fill (hj rfl) (Lv := [(6, .one (.v false (Value.slice none (0 : Nat) (0 : Nat)))), (7, .one (.s false 4 0 (none))), (70, .one (.d false false (.prod (.prod (.int .i64) (.prod (.int .i64) (.prod (.int .i64) (.int .i64)))) (.prod (.int .i64) (.prod (.int .i64) (.prod (.int .i64) (.int .i64))))) q0)), (71, .one (.v false (.int .i64 q1))), (72, .one (.v false (.int .i64 q2)))]) (by kernel_rfl) (by simp only [allGet, ht, and_true])).trans (by kernel_rfl), rfl⟩
  · cases h
theorem cho2_read_ok (st : Stt) (u : cho2_U) (v : cho2_V) (h : cho2_read st = some (u, v)) : cho2_cok st = true ∧ staysA [] [4] st.own = true ∧ cho2_can st = cho2_St u v := by
  obtain ⟨h1, h2, h3⟩ := cho2_rd_ok (fun hb => by rw [Bool.and_eq_true, Bool.and_eq_true] at hb; exact hb.2.2) h
  rw [Bool.and_eq_true, Bool.and_eq_true] at h1
  refine ⟨h1.1, h1.2.1, ?_⟩
  have e : cho2_can st = ⟨(cho2_can st).tm, (cho2_can st).own, 3018⟩ := by kernel_rfl
  rw [e, h2, h3]
  rfl
noncomputable def cho2_cond (u : cho2_U) (v : cho2_V) : Bool := runC (cho2_step u) v
noncomputable def cho2_g (u : cho2_U) (v : cho2_V) : Nat × cho2_V := runG (cho2_step u) v
theorem cho2_hg : ∀ (u : cho2_U) (v : cho2_V), cho2_cond u v = true → loopN (cho2_step u) ((fun u v => runF (cho2_step u) v) u v) v = some (cho2_g u v) := by
  exact fun u v h => run_hg h
noncomputable def cho2_m (st : Stt) : Option (Tr (Ex × Stt)) := sumM cho2_read cho2_cond cho2_St cho2_g [(0, .exit 4)] st
noncomputable def abB_L63 : FuncId → Loops := addL 46 [0, 1, 0, 1, 1, 1, 1, 1] cho2_m abB_L62
set_option maxRecDepth 100000 in
set_option maxHeartbeats 4000000 in
theorem abB_L63_ok : LoopsOK Try.prog abB_L63 :=
  loop_sumF (body := (bodyOf Try.prog 46)) (c := (loopOf (bodyOf Try.prog 46) [1, 1, 1, 1, 1, 0, 1, 0])) (kinds := [.exit 4]) (allow := [(0, .exit 4)]) (St := cho2_St) (step := cho2_step) (W := [0, 1, 2, 3, 4, 5, 8, 9, 10, 11, 12, 13, 14, 15, 16, 17, 18, 19, 20, 21, 22, 23, 24, 25, 26, 27, 28, 29, 30, 31, 32, 33, 34, 35, 36, 37, 38, 39, 40, 41, 42, 43, 44, 45, 46, 47, 48, 49, 50, 51, 52, 53, 54, 55, 56, 57, 58, 59, 60, 61, 62, 63, 64, 65, 66, 67, 68, 69, 73, 74, 75, 76, 77, 78, 79, 80, 81, 82, 83, 84, 85, 86, 87, 88, 89, 90, 91, 92, 93, 94, 95]) (As := []) (ks := [4]) (dd := []) (nx := 3018) (n := 100000) (g := cho2_g) (cond := cho2_cond) (fuel := (fun u v => runF (cho2_step u) v)) (read := cho2_read) (by kernel_rfl) (abA_S12_ok) (abB_L62_ok) 7 ⟨Try.f46, by kernel_rfl, by kernel_rfl⟩ (by kernel_rfl) (by kernel_rfl) (by kernel_rfl) cho2_step_eq cho2_hg cho2_read_ok
end Go.Proofs.Ytaidlflnkdamkaa
