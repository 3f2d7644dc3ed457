/-
  Layer 44: the loops of the laws.
-/
import Derived.Test.YtaidlflnkdamkaaProg
import Derived.Test.YtaidlflnkdamkaaFvX
import Derived.Test.YtaidlflnkdamkaaFvZ
import Derived.Test.YtaidlflnkdamkaaAut
import Derived.Test.YtaidlflnkdamkaaAbA
import Derived.Test.YtaidlflnkdamkaaAbB
import Derived.Test.YtaidlflnkdamkaaAbM
import Derived.Test.YtaidlflnkdamkaaAbN
import Derived.Test.YtaidlflnkdamkaaAbC
import Derived.Test.YtaidlflnkdamkaaAbD
import Derived.Test.YtaidlflnkdamkaaAbE
import Derived.Test.YtaidlflnkdamkaaAbP
import Derived.Test.YtaidlflnkdamkaaAbF
namespace Go.Proofs.Ytaidlflnkdamkaa
open Go
abbrev agr_U : Type := (Ty.list (.prod (.prod (.int .i64) (.prod (.int .i64) (.prod (.int .i64) (.int .i64)))) (.prod (.int .i64) (.prod (.int .i64) (.prod (.int .i64) (.int .i64)))))).den × Bool × Int × (Ty.list (.prod (.prod (.int .i64) (.prod (.int .i64) (.prod (.int .i64) (.int .i64)))) (.prod (.int .i64) (.prod (.int .i64) (.prod (.int .i64) (.int .i64)))))).den × (Ty.list (.int .i64)).den × Int
abbrev agr_V : Type := Bool × Int
def agr_St (u : agr_U) (v : agr_V) : Stt := ⟨[.one .junk, .one (.p 0 0), .one (.v false (.bool v.1)), .one (.d false false (.prod (.prod (.int .i64) (.prod (.int .i64) (.prod (.int .i64) (.int .i64)))) (.prod (.int .i64) (.prod (.int .i64) (.prod (.int .i64) (.int .i64))))) u.1), .one .junk, .one (.v false (.bool u.2.1)), .one .junk, .one .junk, .one .junk, .one .junk, .one .junk, .one .junk, .one .junk, .one .junk, .one .junk, .one .junk, .one .junk, .one .junk, .one .junk, .one .junk, .one .junk, .one .junk, .one .junk, .one .junk, .one .junk, .one .junk, .one .junk, .one .junk, .one .junk, .one .junk, .one .junk, .one .junk, .one .junk, .one .junk, .one .junk, .one .junk, .one .junk, .one .junk, .one .junk, .one .junk, .one .junk, .one .junk, .one .junk, .one .junk, .one .junk, .one .junk, .one .junk, .one .junk, .one .junk, .one .junk, .one .junk, .one .junk, .one .junk, .one .junk, .one .junk, .one .junk, .one .junk, .one (.v false (.int .i64 u.2.2.1)), .one (.v false (.int .i64 v.2)), .one .junk, .one .junk, .one .junk, .one .junk, .one .junk, .one .junk, .one .junk, .one .junk, .one .junk, .one .junk, .one .junk, .one .junk, .one .junk, .one .junk, .one .junk, .one .junk, .one .junk, .one .junk, .one .junk, .one .junk, .one .junk, .one .junk, .one .junk, .one .junk, .one .junk, .one .junk, .one .junk, .one .junk, .one .junk, .one .junk, .one .junk, .one .junk, .one .junk, .one .junk, .one .junk, .one .junk, .one .junk, .one .junk, .one .junk, .one .junk, .one .junk, .one .junk, .one .junk, .one .junk, .one .junk, .one .junk, .one .junk, .one .junk, .one .junk, .one .junk, .one .junk, .one .junk], [(0, .cells [.d false false (.prod (.prod (.int .i64) (.prod (.int .i64) (.prod (.int .i64) (.int .i64)))) (.prod (.int .i64) (.prod (.int .i64) (.prod (.int .i64) (.int .i64))))) u.2.2.2.1, .d false false (.int .i64) u.2.2.2.2.1, .v false (.int .i64 u.2.2.2.2.2)])], 1045⟩
def agr_step (u : agr_U) (v : agr_V) : Tr (agr_V ⊕ (Nat × agr_V)) :=
  match u, v with
  | (q1, q2, q3, q5, q6, q7), (q0, q4) => .br (decide (q4 < q3)) (.br (decide ((0 : Int) ≤ q4) && decide (q4 < (↑(List.length q1) : Int))) (.br ((bif q2 then ((decide ((0 : Int) ≤ q4) && decide (q4 < (↑(List.length q5) : Int))) && (bif decide (Prod.fst (Prod.snd (Prod.snd (el_iiiiiiii q1 q4))) < Prod.fst (Prod.snd (Prod.snd (el_iiiiiiii q5 q4)))) then true else (decide ((0 : Int) ≤ q4) && decide (q4 < (↑(List.length q5) : Int))))) else true)) (.br (bif q2 then bif decide (Prod.fst (Prod.snd (Prod.snd (el_iiiiiiii q1 q4))) < Prod.fst (Prod.snd (Prod.snd (el_iiiiiiii q5 q4)))) then true else decide (Prod.snd (Prod.snd (Prod.snd (Prod.snd (el_iiiiiiii q1 q4)))) < Prod.snd (Prod.snd (Prod.snd (Prod.snd (el_iiiiiiii q5 q4))))) else false) (.ret (.inr (0, (false, q4)))) (.br (decide ((0 : Int) ≤ q4) && decide (q4 < (↑(List.length q5) : Int))) (.br (decide ((0 : Int) ≤ q4) && decide (q4 < (↑(List.length q5) : Int))) (.br (decide ((0 : Int) ≤ q4) && decide (q4 < (↑(List.length q5) : Int))) (.br (!(Prod.fst (Prod.fst (el_iiiiiiii q1 q4)) == Prod.fst (Prod.fst (el_iiiiiiii q5 q4)) && (Prod.fst (Prod.snd (Prod.fst (el_iiiiiiii q1 q4))) == Prod.fst (Prod.snd (Prod.fst (el_iiiiiiii q5 q4))) && (Prod.fst (Prod.snd (Prod.snd (Prod.fst (el_iiiiiiii q1 q4)))) == Prod.fst (Prod.snd (Prod.snd (Prod.fst (el_iiiiiiii q5 q4)))) && (Prod.snd (Prod.snd (Prod.snd (Prod.fst (el_iiiiiiii q1 q4)))) == Prod.snd (Prod.snd (Prod.snd (Prod.fst (el_iiiiiiii q5 q4)))) && true))) && (Prod.fst (Prod.snd (el_iiiiiiii q1 q4)) == Prod.fst (Prod.snd (el_iiiiiiii q5 q4)) && (Prod.fst (Prod.snd (Prod.snd (el_iiiiiiii q5 q4))) == Prod.fst (Prod.snd (Prod.snd (el_iiiiiiii q5 q4))) && (Prod.fst (Prod.snd (Prod.snd (Prod.snd (el_iiiiiiii q1 q4)))) == Prod.fst (Prod.snd (Prod.snd (Prod.snd (el_iiiiiiii q5 q4)))) && (Prod.snd (Prod.snd (Prod.snd (Prod.snd (el_iiiiiiii q5 q4)))) == Prod.snd (Prod.snd (Prod.snd (Prod.snd (el_iiiiiiii q5 q4)))) && true)))))) (.ret (.inr (0, (false, q4)))) (.ret (.inl (q0, IntKind.wrap IntKind.i64 (q4 + (1 : Int)))))) (.bad 29)) (.bad 29)) (.bad 29))) (.bad 117)) (.bad 29)) (.ret (.inr (1, (q0, q4))))
set_option maxRecDepth 100000 in
set_option maxHeartbeats 4000000 in
theorem agr_step_eq : ∀ (u : agr_U) (v : agr_V), (evalC Try.prog (evalB Try.prog abF_S62 (opens []) abE_L62 7).1 (evalB Try.prog abF_S62 (opens []) abE_L62 7).2 (opens []) (abE_L62 5) 100000 (0 :: [0, 1, 0, 1, 1, 1, 1, 1, 1]) (loopOf (bodyOf Try.prog 5) [1, 1, 1, 1, 1, 1, 0, 1, 0]) (agr_St u v) []).bind (finF [0, 4, 6, 7, 8, 9, 10, 11, 12, 13, 14, 15, 16, 17, 18, 19, 20, 21, 22, 23, 24, 25, 26, 27, 28, 29, 30, 31, 32, 33, 34, 35, 36, 37, 38, 39, 40, 41, 42, 43, 44, 45, 46, 47, 48, 49, 50, 51, 52, 53, 54, 55, 56, 59, 60, 61, 62, 63, 64, 65, 66, 67, 68, 69, 70, 71, 72, 73, 74, 75, 76, 77, 78, 79, 80, 81, 82, 83, 84, 85, 86, 87, 88, 89, 90, 91, 92, 93, 94, 95, 96, 97, 98, 99, 100, 101, 102, 103, 104, 105, 106, 107, 108, 109, 110] [] [0] [] 1045) = (agr_step u v).bind (outA (agr_St u) [.ret, .exit 0]) := by
  rintro ⟨q1, q2, q3, q5, q6, q7⟩ ⟨q0, q4⟩
  kernel_rfl
def agr_rd (b : Bool) (tm : List (Option AV)) (own : Own) : Option (agr_U × agr_V) :=
  match b, tm, own with
  | true, [some (.one (.p 0 0)), some (.one (.v false (.bool q0))), some (.one (.d false false (.prod (.prod (.int .i64) (.prod (.int .i64) (.prod (.int .i64) (.int .i64)))) (.prod (.int .i64) (.prod (.int .i64) (.prod (.int .i64) (.int .i64))))) q1)), some (.one (.v false (.bool q2))), some (.one (.v false (.int .i64 q3))), some (.one (.v false (.int .i64 q4)))], [(0, .cells [.d false false (.prod (.prod (.int .i64) (.prod (.int .i64) (.prod (.int .i64) (.int .i64)))) (.prod (.int .i64) (.prod (.int .i64) (.prod (.int .i64) (.int .i64))))) q5, .d false false (.int .i64) q6, .v false (.int .i64 q7)])] => some ((q1, q2, q3, q5, q6, q7), (q0, q4))
  | _, _, _ => none
def agr_can (st : Stt) : Stt := canA [0, 4, 6, 7, 8, 9, 10, 11, 12, 13, 14, 15, 16, 17, 18, 19, 20, 21, 22, 23, 24, 25, 26, 27, 28, 29, 30, 31, 32, 33, 34, 35, 36, 37, 38, 39, 40, 41, 42, 43, 44, 45, 46, 47, 48, 49, 50, 51, 52, 53, 54, 55, 56, 59, 60, 61, 62, 63, 64, 65, 66, 67, 68, 69, 70, 71, 72, 73, 74, 75, 76, 77, 78, 79, 80, 81, 82, 83, 84, 85, 86, 87, 88, 89, 90, 91, 92, 93, 94, 95, 96, 97, 98, 99, 100, 101, 102, 103, 104, 105, 106, 107, 108, 109, 110] [] [0] [] 1045 st
def agr_cok (st : Stt) : Bool := canAok [0, 4, 6, 7, 8, 9, 10, 11, 12, 13, 14, 15, 16, 17, 18, 19, 20, 21, 22, 23, 24, 25, 26, 27, 28, 29, 30, 31, 32, 33, 34, 35, 36, 37, 38, 39, 40, 41, 42, 43, 44, 45, 46, 47, 48, 49, 50, 51, 52, 53, 54, 55, 56, 59, 60, 61, 62, 63, 64, 65, 66, 67, 68, 69, 70, 71, 72, 73, 74, 75, 76, 77, 78, 79, 80, 81, 82, 83, 84, 85, 86, 87, 88, 89, 90, 91, 92, 93, 94, 95, 96, 97, 98, 99, 100, 101, 102, 103, 104, 105, 106, 107, 108, 109, 110] [] [0] [] 1045 st
def agr_read (st : Stt) : Option (agr_U × agr_V) := agr_rd (agr_cok st && (staysA [] [0] st.own && juAll [0, 4, 6, 7, 8, 9, 10, 11, 12, 13, 14, 15, 16, 17, 18, 19, 20, 21, 22, 23, 24, 25, 26, 27, 28, 29, 30, 31, 32, 33, 34, 35, 36, 37, 38, 39, 40, 41, 42, 43, 44, 45, 46, 47, 48, 49, 50, 51, 52, 53, 54, 55, 56, 59, 60, 61, 62, 63, 64, 65, 66, 67, 68, 69, 70, 71, 72, 73, 74, 75, 76, 77, 78, 79, 80, 81, 82, 83, 84, 85, 86, 87, 88, 89, 90, 91, 92, 93, 94, 95, 96, 97, 98, 99, 100, 101, 102, 103, 104, 105, 106, 107, 108, 109, 110] (agr_can st).tm 111)) [(agr_can st).tm[1]?, (agr_can st).tm[2]?, (agr_can st).tm[3]?, (agr_can st).tm[5]?, (agr_can st).tm[57]?, (agr_can st).tm[58]?] (agr_can st).own
set_option maxRecDepth 100000 in
set_option maxHeartbeats 4000000 in
theorem agr_rd_ok {b : Bool} {tm : List AV} {own : Own} {u : agr_U} {v : agr_V} (hj : b = true → juAll [0, 4, 6, 7, 8, 9, 10, 11, 12, 13, 14, 15, 16, 17, 18, 19, 20, 21, 22, 23, 24, 25, 26, 27, 28, 29, 30, 31, 32, 33, 34, 35, 36, 37, 38, 39, 40, 41, 42, 43, 44, 45, 46, 47, 48, 49, 50, 51, 52, 53, 54, 55, 56, 59, 60, 61, 62, 63, 64, 65, 66, 67, 68, 69, 70, 71, 72, 73, 74, 75, 76, 77, 78, 79, 80, 81, 82, 83, 84, 85, 86, 87, 88, 89, 90, 91, 92, 93, 94, 95, 96, 97, 98, 99, 100, 101, 102, 103, 104, 105, 106, 107, 108, 109, 110] tm 111 = true) (h : agr_rd b [tm[1]?, tm[2]?, tm[3]?, tm[5]?, tm[57]?, tm[58]?] own = some (u, v)) : b = true ∧ tm = (agr_St u v).tm ∧ own = (agr_St u v).own := by
  unfold agr_rd at h
  split at h
  · rename_i q0 q1 q2 q3 q4 q5 q6 q7 ht
    simp only [List.cons.injEq, and_true] at ht
    have h := Option.some.inj h
    have hu := congrArg Prod.fst h
    have hv := congrArg Prod.snd h
    dsimp only at hu hv
    subst hu
    subst hv
    refine ⟨rfl, (tm_fill (hj rfl) (Lv := [(1, .one (.p 0 0)), (2, .one (.v false (.bool q0))), (3, .one (.d false false (.prod (.prod (.int .i64) (.prod (.int .i64) (.prod (.int .i64) (.int .i64)))) (.prod (.int .i64) (.prod (.int .i64) (.prod (.int .i64) (.int .i64))))) q1)), (5, .one (.v false (.bool q2))), (57, .one (.v false (.int .i64 q3))), (58, .one (.v false (.int .i64 q4)))]) (by kernel_rfl) (by simp only [allGet, ht, and_true])).trans (by kernel_rfl), rfl⟩
  · cases h
theorem agr_read_ok (st : Stt) (u : agr_U) (v : agr_V) (h : agr_read st = some (u, v)) : agr_cok st = true ∧ staysA [] [0] st.own = true ∧ agr_can st = agr_St u v := by
  obtain ⟨h1, h2, h3⟩ := agr_rd_ok (fun hb => by rw [Bool.and_eq_true, Bool.and_eq_true] at hb; exact hb.2.2) h
  rw [Bool.and_eq_true, Bool.and_eq_true] at h1
  refine ⟨h1.1, h1.2.1, ?_⟩
  have e : agr_can st = ⟨(agr_can st).tm, (agr_can st).own, 1045⟩ := by kernel_rfl
  rw [e, h2, h3]
  rfl
noncomputable def agr_cond (u : agr_U) (v : agr_V) : Bool := runC (agr_step u) v
noncomputable def agr_g (u : agr_U) (v : agr_V) : Nat × agr_V := runG (agr_step u) v
theorem agr_hg : ∀ (u : agr_U) (v : agr_V), agr_cond u v = true → loopN (agr_step u) ((fun u v => runF (agr_step u) v) u v) v = some (agr_g u v) := by
  exact fun u v h => run_hg h
noncomputable def agr_m (st : Stt) : Option (Tr (Ex × Stt)) := sumM agr_read agr_cond agr_St agr_g [(0, .ret), (1, .exit 0)] st
noncomputable def abG_L61 : FuncId → Loops := addL 5 [0, 1, 0, 1, 1, 1, 1, 1, 1] agr_m abE_L62
set_option maxRecDepth 100000 in
set_option maxHeartbeats 4000000 in
theorem abG_L61_ok : LoopsOK Try.prog abG_L61 :=
  loop_sumF (body := (bodyOf Try.prog 5)) (c := (loopOf (bodyOf Try.prog 5) [1, 1, 1, 1, 1, 1, 0, 1, 0])) (kinds := [.ret, .exit 0]) (allow := [(0, .ret), (1, .exit 0)]) (St := agr_St) (step := agr_step) (W := [0, 4, 6, 7, 8, 9, 10, 11, 12, 13, 14, 15, 16, 17, 18, 19, 20, 21, 22, 23, 24, 25, 26, 27, 28, 29, 30, 31, 32, 33, 34, 35, 36, 37, 38, 39, 40, 41, 42, 43, 44, 45, 46, 47, 48, 49, 50, 51, 52, 53, 54, 55, 56, 59, 60, 61, 62, 63, 64, 65, 66, 67, 68, 69, 70, 71, 72, 73, 74, 75, 76, 77, 78, 79, 80, 81, 82, 83, 84, 85, 86, 87, 88, 89, 90, 91, 92, 93, 94, 95, 96, 97, 98, 99, 100, 101, 102, 103, 104, 105, 106, 107, 108, 109, 110]) (As := []) (ks := [0]) (dd := []) (nx := 1045) (n := 100000) (g := agr_g) (cond := agr_cond) (fuel := (fun u v => runF (agr_step u) v)) (read := agr_read) (by kernel_rfl) (abF_S62_ok) (abE_L62_ok) 7 ⟨Try.f5, by kernel_rfl, by kernel_rfl⟩ (by kernel_rfl) (by kernel_rfl) (by kernel_rfl) agr_step_eq agr_hg agr_read_ok
abbrev ati_U : Type := (Ty.list (.prod (.prod (.int .i64) (.prod (.int .i64) (.prod (.int .i64) (.int .i64)))) (.prod (.int .i64) (.prod (.int .i64) (.prod (.int .i64) (.int .i64)))))).den × Int × (Ty.list (.prod (.prod (.int .i64) (.prod (.int .i64) (.prod (.int .i64) (.int .i64)))) (.prod (.int .i64) (.prod (.int .i64) (.prod (.int .i64) (.int .i64)))))).den × (Ty.list (.int .i64)).den × Int
abbrev ati_V : Type := Bool × Int
def ati_St (u : ati_U) (v : ati_V) : Stt := ⟨[.one .junk, .one (.p 0 0), .one (.v false (.bool v.1)), .one (.d false false (.prod (.prod (.int .i64) (.prod (.int .i64) (.prod (.int .i64) (.int .i64)))) (.prod (.int .i64) (.prod (.int .i64) (.prod (.int .i64) (.int .i64))))) u.1), .one (.v false (.int .i64 u.2.1)), .one (.v false (.int .i64 v.2)), .one .junk, .one .junk, .one .junk, .one .junk, .one .junk, .one .junk, .one .junk, .one .junk, .one .junk, .one .junk, .one .junk, .one .junk, .one .junk, .one .junk, .one .junk, .one .junk, .one .junk, .one .junk, .one .junk, .one .junk, .one .junk, .one .junk, .one .junk, .one .junk, .one .junk, .one .junk, .one .junk, .one .junk, .one .junk, .one .junk, .one .junk, .one .junk, .one .junk, .one .junk, .one .junk, .one .junk, .one .junk, .one .junk, .one .junk, .one .junk, .one .junk, .one .junk, .one .junk, .one .junk, .one .junk, .one .junk, .one .junk, .one .junk, .one .junk, .one .junk, .one .junk, .one .junk, .one .junk, .one .junk, .one .junk, .one .junk, .one .junk, .one .junk, .one .junk, .one .junk, .one .junk, .one .junk, .one .junk, .one .junk, .one .junk, .one .junk, .one .junk, .one .junk, .one .junk, .one .junk, .one .junk, .one .junk, .one .junk, .one .junk, .one .junk, .one .junk, .one .junk, .one .junk, .one .junk, .one .junk, .one .junk, .one .junk, .one .junk, .one .junk], [(0, .cells [.d false false (.prod (.prod (.int .i64) (.prod (.int .i64) (.prod (.int .i64) (.int .i64)))) (.prod (.int .i64) (.prod (.int .i64) (.prod (.int .i64) (.int .i64))))) u.2.2.1, .d false false (.int .i64) u.2.2.2.1, .v false (.int .i64 u.2.2.2.2)])], 1018⟩
def ati_step (u : ati_U) (v : ati_V) : Tr (ati_V ⊕ (Nat × ati_V)) :=
  match u, v with
  | (q1, q2, q4, q5, q6), (q0, q3) => .br (bif bif decide (q3 < (↑(List.length q1) : Int)) then q2 == (0 : Int) else false then (↑(List.length q1) : Int) == (↑(List.length q5) : Int) else false) (.br (decide ((0 : Int) ≤ IntKind.wrap IntKind.i64 (q3 - (1 : Int))) && decide (IntKind.wrap IntKind.i64 (q3 - (1 : Int)) < (↑(List.length q1) : Int))) (.br (decide ((0 : Int) ≤ q3) && decide (q3 < (↑(List.length q1) : Int))) (.br (decide ((0 : Int) ≤ q3) && decide (q3 < (↑(List.length q5) : Int))) (.br (bif bif bif bif Prod.fst (Prod.snd (Prod.snd (el_iiiiiiii q1 q3))) != el_i q5 q3 then Prod.fst (Prod.snd (Prod.snd (el_iiiiiiii q1 q3))) != Prod.fst (Prod.snd (Prod.snd (Prod.snd (el_iiiiiiii q1 (IntKind.wrap IntKind.i64 (q3 - (1 : Int))))))) else false then Prod.fst (Prod.snd (Prod.snd (el_iiiiiiii q1 q3))) != Prod.fst (Prod.snd (Prod.snd (Prod.snd (el_iiiiiiii q1 q3)))) else false then Prod.fst (Prod.snd (Prod.snd (el_iiiiiiii q1 q3))) != IntKind.wrap IntKind.i64 (Prod.fst (Prod.snd (Prod.snd (el_iiiiiiii q1 (IntKind.wrap IntKind.i64 (q3 - (1 : Int)))))) + reach (Prod.fst (Prod.fst (el_iiiiiiii q1 (IntKind.wrap IntKind.i64 (q3 - (1 : Int)))))) (Prod.fst (Prod.snd (Prod.fst (el_iiiiiiii q1 (IntKind.wrap IntKind.i64 (q3 - (1 : Int))))))) (Prod.fst (Prod.snd (Prod.snd (Prod.fst (el_iiiiiiii q1 (IntKind.wrap IntKind.i64 (q3 - (1 : Int)))))))) (Prod.snd (Prod.snd (Prod.snd (Prod.fst (el_iiiiiiii q1 (IntKind.wrap IntKind.i64 (q3 - (1 : Int)))))))) (Prod.fst (Prod.snd (el_iiiiiiii q1 (IntKind.wrap IntKind.i64 (q3 - (1 : Int))))))) else false then Prod.fst (Prod.snd (Prod.snd (el_iiiiiiii q1 q3))) != IntKind.wrap IntKind.i64 (Prod.snd (Prod.snd (Prod.snd (Prod.snd (el_iiiiiiii q1 q3)))) + reach (Prod.fst (Prod.fst (el_iiiiiiii q1 q3))) (Prod.fst (Prod.snd (Prod.fst (el_iiiiiiii q1 q3)))) (Prod.fst (Prod.snd (Prod.snd (Prod.fst (el_iiiiiiii q1 q3))))) (Prod.snd (Prod.snd (Prod.snd (Prod.fst (el_iiiiiiii q1 q3))))) (Prod.fst (Prod.snd (el_iiiiiiii q1 q3)))) else false) (.ret (.inr (0, (false, q3)))) (.ret (.inl (q0, IntKind.wrap IntKind.i64 (q3 + (1 : Int)))))) (.bad 29)) (.bad 29)) (.bad 29)) (.ret (.inr (1, (q0, q3))))
set_option maxRecDepth 100000 in
set_option maxHeartbeats 4000000 in
theorem ati_step_eq : ∀ (u : ati_U) (v : ati_V), (evalC Try.prog (evalB Try.prog abF_S62 (opens []) abG_L61 7).1 (evalB Try.prog abF_S62 (opens []) abG_L61 7).2 (opens []) (abG_L61 6) 100000 (0 :: [0, 1, 0, 1, 1, 1]) (loopOf (bodyOf Try.prog 6) [1, 1, 1, 0, 1, 0]) (ati_St u v) []).bind (finF [0, 6, 7, 8, 9, 10, 11, 12, 13, 14, 15, 16, 17, 18, 19, 20, 21, 22, 23, 24, 25, 26, 27, 28, 29, 30, 31, 32, 33, 34, 35, 36, 37, 38, 39, 40, 41, 42, 43, 44, 45, 46, 47, 48, 49, 50, 51, 52, 53, 54, 55, 56, 57, 58, 59, 60, 61, 62, 63, 64, 65, 66, 67, 68, 69, 70, 71, 72, 73, 74, 75, 76, 77, 78, 79, 80, 81, 82, 83, 84, 85, 86, 87, 88, 89] [] [0] [] 1018) = (ati_step u v).bind (outA (ati_St u) [.ret, .exit 0]) := by
  rintro ⟨q1, q2, q4, q5, q6⟩ ⟨q0, q3⟩
  kernel_rfl
def ati_rd (b : Bool) (tm : List (Option AV)) (own : Own) : Option (ati_U × ati_V) :=
  match b, tm, own with
  | true, [some (.one (.p 0 0)), some (.one (.v false (.bool q0))), some (.one (.d false false (.prod (.prod (.int .i64) (.prod (.int .i64) (.prod (.int .i64) (.int .i64)))) (.prod (.int .i64) (.prod (.int .i64) (.prod (.int .i64) (.int .i64))))) q1)), some (.one (.v false (.int .i64 q2))), some (.one (.v false (.int .i64 q3)))], [(0, .cells [.d false false (.prod (.prod (.int .i64) (.prod (.int .i64) (.prod (.int .i64) (.int .i64)))) (.prod (.int .i64) (.prod (.int .i64) (.prod (.int .i64) (.int .i64))))) q4, .d false false (.int .i64) q5, .v false (.int .i64 q6)])] => some ((q1, q2, q4, q5, q6), (q0, q3))
  | _, _, _ => none
def ati_can (st : Stt) : Stt := canA [0, 6, 7, 8, 9, 10, 11, 12, 13, 14, 15, 16, 17, 18, 19, 20, 21, 22, 23, 24, 25, 26, 27, 28, 29, 30, 31, 32, 33, 34, 35, 36, 37, 38, 39, 40, 41, 42, 43, 44, 45, 46, 47, 48, 49, 50, 51, 52, 53, 54, 55, 56, 57, 58, 59, 60, 61, 62, 63, 64, 65, 66, 67, 68, 69, 70, 71, 72, 73, 74, 75, 76, 77, 78, 79, 80, 81, 82, 83, 84, 85, 86, 87, 88, 89] [] [0] [] 1018 st
def ati_cok (st : Stt) : Bool := canAok [0, 6, 7, 8, 9, 10, 11, 12, 13, 14, 15, 16, 17, 18, 19, 20, 21, 22, 23, 24, 25, 26, 27, 28, 29, 30, 31, 32, 33, 34, 35, 36, 37, 38, 39, 40, 41, 42, 43, 44, 45, 46, 47, 48, 49, 50, 51, 52, 53, 54, 55, 56, 57, 58, 59, 60, 61, 62, 63, 64, 65, 66, 67, 68, 69, 70, 71, 72, 73, 74, 75, 76, 77, 78, 79, 80, 81, 82, 83, 84, 85, 86, 87, 88, 89] [] [0] [] 1018 st
def ati_read (st : Stt) : Option (ati_U × ati_V) := ati_rd (ati_cok st && (staysA [] [0] st.own && juAll [0, 6, 7, 8, 9, 10, 11, 12, 13, 14, 15, 16, 17, 18, 19, 20, 21, 22, 23, 24, 25, 26, 27, 28, 29, 30, 31, 32, 33, 34, 35, 36, 37, 38, 39, 40, 41, 42, 43, 44, 45, 46, 47, 48, 49, 50, 51, 52, 53, 54, 55, 56, 57, 58, 59, 60, 61, 62, 63, 64, 65, 66, 67, 68, 69, 70, 71, 72, 73, 74, 75, 76, 77, 78, 79, 80, 81, 82, 83, 84, 85, 86, 87, 88, 89] (ati_can st).tm 90)) [(ati_can st).tm[1]?, (ati_can st).tm[2]?, (ati_can st).tm[3]?, (ati_can st).tm[4]?, (ati_can st).tm[5]?] (ati_can st).own
set_option maxRecDepth 100000 in
set_option maxHeartbeats 4000000 in
theorem ati_rd_ok {b : Bool} {tm : List AV} {own : Own} {u : ati_U} {v : ati_V} (hj : b = true → juAll [0, 6, 7, 8, 9, 10, 11, 12, 13, 14, 15, 16, 17, 18, 19, 20, 21, 22, 23, 24, 25, 26, 27, 28, 29, 30, 31, 32, 33, 34, 35, 36, 37, 38, 39, 40, 41, 42, 43, 44, 45, 46, 47, 48, 49, 50, 51, 52, 53, 54, 55, 56, 57, 58, 59, 60, 61, 62, 63, 64, 65, 66, 67, 68, 69, 70, 71, 72, 73, 74, 75, 76, 77, 78, 79, 80, 81, 82, 83, 84, 85, 86, 87, 88, 89] tm 90 = true) (h : ati_rd b [tm[1]?, tm[2]?, tm[3]?, tm[4]?, tm[5]?] own = some (u, v)) : b = true ∧ tm = (ati_St u v).tm ∧ own = (ati_St u v).own := by
  unfold ati_rd at h
  split at h
  · rename_i q0 q1 q2 q3 q4 q5 q6 ht
    simp only [List.cons.injEq, and_true] at ht
    have h := Option.some.inj h
    have hu := congrArg Prod.fst h
    have hv := congrArg Prod.snd h
    dsimp only at hu hv
    subst hu
    subst hv
    refine ⟨rfl, (tm_fill (hj rfl) (Lv := [(1, .one (.p 0 0)), (2, .one (.v false (.bool q0))), (3, .one (.d false false (.prod (.prod (.int .i64) (.prod (.int .i64) (.prod (.int .i64) (.int .i64)))) (.prod (.int .i64) (.prod (.int .i64) (.prod (.int .i64) (.int .i64))))) q1)), (4, .one (.v false (.int .i64 q2))), (5, .one (.v false (.int .i64 q3)))]) (by kernel_rfl) (by simp only [allGet, ht, and_true])).trans (by kernel_rfl), rfl⟩
  · cases h
theorem ati_read_ok (st : Stt) (u : ati_U) (v : ati_V) (h : ati_read st = some (u, v)) : ati_cok st = true ∧ staysA [] [0] st.own = true ∧ ati_can st = ati_St u v := by
  obtain ⟨h1, h2, h3⟩ := ati_rd_ok (fun hb => by rw [Bool.and_eq_true, Bool.and_eq_true] at hb; exact hb.2.2) h
  rw [Bool.and_eq_true, Bool.and_eq_true] at h1
  refine ⟨h1.1, h1.2.1, ?_⟩
  have e : ati_can st = ⟨(ati_can st).tm, (ati_can st).own, 1018⟩ := by kernel_rfl
  rw [e, h2, h3]
  rfl
noncomputable def ati_cond (u : ati_U) (v : ati_V) : Bool := runC (ati_step u) v
noncomputable def ati_g (u : ati_U) (v : ati_V) : Nat × ati_V := runG (ati_step u) v
theorem ati_hg : ∀ (u : ati_U) (v : ati_V), ati_cond u v = true → loopN (ati_step u) ((fun u v => runF (ati_step u) v) u v) v = some (ati_g u v) := by
  exact fun u v h => run_hg h
noncomputable def ati_m (st : Stt) : Option (Tr (Ex × Stt)) := sumM ati_read ati_cond ati_St ati_g [(0, .ret), (1, .exit 0)] st
noncomputable def abG_L62 : FuncId → Loops := addL 6 [0, 1, 0, 1, 1, 1] ati_m abG_L61
set_option maxRecDepth 100000 in
set_option maxHeartbeats 4000000 in
theorem abG_L62_ok : LoopsOK Try.prog abG_L62 :=
  loop_sumF (body := (bodyOf Try.prog 6)) (c := (loopOf (bodyOf Try.prog 6) [1, 1, 1, 0, 1, 0])) (kinds := [.ret, .exit 0]) (allow := [(0, .ret), (1, .exit 0)]) (St := ati_St) (step := ati_step) (W := [0, 6, 7, 8, 9, 10, 11, 12, 13, 14, 15, 16, 17, 18, 19, 20, 21, 22, 23, 24, 25, 26, 27, 28, 29, 30, 31, 32, 33, 34, 35, 36, 37, 38, 39, 40, 41, 42, 43, 44, 45, 46, 47, 48, 49, 50, 51, 52, 53, 54, 55, 56, 57, 58, 59, 60, 61, 62, 63, 64, 65, 66, 67, 68, 69, 70, 71, 72, 73, 74, 75, 76, 77, 78, 79, 80, 81, 82, 83, 84, 85, 86, 87, 88, 89]) (As := []) (ks := [0]) (dd := []) (nx := 1018) (n := 100000) (g := ati_g) (cond := ati_cond) (fuel := (fun u v => runF (ati_step u) v)) (read := ati_read) (by kernel_rfl) (abF_S62_ok) (abG_L61_ok) 7 ⟨Try.f6, by kernel_rfl, by kernel_rfl⟩ (by kernel_rfl) (by kernel_rfl) (by kernel_rfl) ati_step_eq ati_hg ati_read_ok
abbrev aca_U : Type := (Ty.list (.prod (.prod (.int .i64) (.prod (.int .i64) (.prod (.int .i64) (.int .i64)))) (.prod (.int .i64) (.prod (.int .i64) (.prod (.int .i64) (.int .i64)))))).den × (Ty.list (.prod (.prod (.int .i64) (.prod (.int .i64) (.prod (.int .i64) (.int .i64)))) (.prod (.int .i64) (.prod (.int .i64) (.prod (.int .i64) (.int .i64)))))).den × Int
abbrev aca_V : Type := Bool × Int
def aca_St (u : aca_U) (v : aca_V) : Stt := ⟨[.one .junk, .one .junk, .one .junk, .one .junk, .one .junk, .one .junk, .one (.v false (.bool v.1)), .one .junk, .one .junk, .one (.d false false (.prod (.prod (.int .i64) (.prod (.int .i64) (.prod (.int .i64) (.int .i64)))) (.prod (.int .i64) (.prod (.int .i64) (.prod (.int .i64) (.int .i64))))) u.1), .one .junk, .one (.d false false (.prod (.prod (.int .i64) (.prod (.int .i64) (.prod (.int .i64) (.int .i64)))) (.prod (.int .i64) (.prod (.int .i64) (.prod (.int .i64) (.int .i64))))) u.2.1), .one .junk, .one .junk, .one .junk, .one .junk, .one .junk, .one .junk, .one .junk, .one .junk, .one .junk, .one .junk, .one .junk, .one .junk, .one .junk, .one .junk, .one .junk, .one .junk, .one .junk, .one .junk, .one .junk, .one .junk, .one .junk, .one .junk, .one .junk, .one .junk, .one .junk, .one .junk, .one .junk, .one .junk, .one .junk, .one .junk, .one .junk, .one .junk, .one .junk, .one .junk, .one .junk, .one .junk, .one .junk, .one .junk, .one .junk, .one .junk, .one .junk, .one .junk, .one .junk, .one .junk, .one .junk, .one .junk, .one .junk, .one .junk, .one .junk, .one .junk, .one .junk, .one .junk, .one .junk, .one .junk, .one .junk, .one .junk, .one .junk, .one .junk, .one .junk, .one .junk, .one (.v false (.int .i64 u.2.2)), .one (.v false (.int .i64 v.2)), .one .junk, .one .junk, .one .junk, .one .junk, .one .junk, .one .junk, .one .junk, .one .junk, .one .junk, .one .junk, .one .junk, .one .junk, .one .junk, .one .junk, .one .junk, .one .junk, .one .junk, .one .junk, .one .junk, .one .junk, .one .junk, .one .junk, .one .junk, .one .junk, .one .junk, .one .junk, .one .junk, .one .junk, .one .junk, .one .junk, .one .junk, .one .junk, .one .junk, .one .junk], [(14, .dead), (11, .dead), (0, .dead)], 1062⟩
def aca_step (u : aca_U) (v : aca_V) : Tr (aca_V ⊕ (Nat × aca_V)) :=
  match u, v with
  | (q1, q2, q3), (q0, q4) => .br (decide (q4 < q3)) (.br ((bif decide (q4 ≥ (↑(List.length q1) : Int)) then true else ((decide ((0 : Int) ≤ q4) && decide (q4 < (↑(List.length q2) : Int))) && (decide ((0 : Int) ≤ q4) && decide (q4 < (↑(List.length q1) : Int)))))) (.br ((bif bif decide (q4 ≥ (↑(List.length q1) : Int)) then true else decide (Prod.fst (Prod.snd (Prod.snd (el_iiiiiiii q2 q4))) > Prod.fst (Prod.snd (Prod.snd (el_iiiiiiii q1 q4)))) then true else ((decide ((0 : Int) ≤ q4) && decide (q4 < (↑(List.length q2) : Int))) && (decide ((0 : Int) ≤ q4) && decide (q4 < (↑(List.length q1) : Int)))))) (.br (bif bif decide (q4 ≥ (↑(List.length q1) : Int)) then true else decide (Prod.fst (Prod.snd (Prod.snd (el_iiiiiiii q2 q4))) > Prod.fst (Prod.snd (Prod.snd (el_iiiiiiii q1 q4)))) then true else decide (Prod.snd (Prod.snd (Prod.snd (Prod.snd (el_iiiiiiii q2 q4)))) > Prod.snd (Prod.snd (Prod.snd (Prod.snd (el_iiiiiiii q1 q4)))))) (.ret (.inr (0, (false, q4)))) (.ret (.inl (q0, IntKind.wrap IntKind.i64 (q4 + (1 : Int)))))) (.bad 117)) (.bad 117)) (.ret (.inr (1, (q0, q4))))
set_option maxRecDepth 100000 in
set_option maxHeartbeats 4000000 in
theorem aca_step_eq : ∀ (u : aca_U) (v : aca_V), (evalC Try.prog (evalB Try.prog abF_S62 (opens []) abG_L62 7).1 (evalB Try.prog abF_S62 (opens []) abG_L62 7).2 (opens []) (abG_L62 7) 100000 (0 :: [0, 1, 0, 1, 1, 1, 1, 1, 1, 1, 1]) (loopOf (bodyOf Try.prog 7) [1, 1, 1, 1, 1, 1, 1, 1, 0, 1, 0]) (aca_St u v) []).bind (finF [0, 1, 2, 3, 4, 5, 7, 8, 10, 12, 13, 14, 15, 16, 17, 18, 19, 20, 21, 22, 23, 24, 25, 26, 27, 28, 29, 30, 31, 32, 33, 34, 35, 36, 37, 38, 39, 40, 41, 42, 43, 44, 45, 46, 47, 48, 49, 50, 51, 52, 53, 54, 55, 56, 57, 58, 59, 60, 61, 62, 63, 64, 65, 66, 67, 68, 69, 70, 71, 74, 75, 76, 77, 78, 79, 80, 81, 82, 83, 84, 85, 86, 87, 88, 89, 90, 91, 92, 93, 94, 95, 96, 97, 98, 99, 100, 101, 102, 103, 104, 105, 106, 107] [] [14, 11, 0] [14, 11, 0] 1062) = (aca_step u v).bind (outA (aca_St u) [.ret, .exit 0]) := by
  rintro ⟨q1, q2, q3⟩ ⟨q0, q4⟩
  kernel_rfl
def aca_rd (b : Bool) (tm : List (Option AV)) (own : Own) : Option (aca_U × aca_V) :=
  match b, tm, own with
  | true, [some (.one (.v false (.bool q0))), some (.one (.d false false (.prod (.prod (.int .i64) (.prod (.int .i64) (.prod (.int .i64) (.int .i64)))) (.prod (.int .i64) (.prod (.int .i64) (.prod (.int .i64) (.int .i64))))) q1)), some (.one (.d false false (.prod (.prod (.int .i64) (.prod (.int .i64) (.prod (.int .i64) (.int .i64)))) (.prod (.int .i64) (.prod (.int .i64) (.prod (.int .i64) (.int .i64))))) q2)), some (.one (.v false (.int .i64 q3))), some (.one (.v false (.int .i64 q4)))], [(14, .dead), (11, .dead), (0, .dead)] => some ((q1, q2, q3), (q0, q4))
  | _, _, _ => none
def aca_can (st : Stt) : Stt := canA [0, 1, 2, 3, 4, 5, 7, 8, 10, 12, 13, 14, 15, 16, 17, 18, 19, 20, 21, 22, 23, 24, 25, 26, 27, 28, 29, 30, 31, 32, 33, 34, 35, 36, 37, 38, 39, 40, 41, 42, 43, 44, 45, 46, 47, 48, 49, 50, 51, 52, 53, 54, 55, 56, 57, 58, 59, 60, 61, 62, 63, 64, 65, 66, 67, 68, 69, 70, 71, 74, 75, 76, 77, 78, 79, 80, 81, 82, 83, 84, 85, 86, 87, 88, 89, 90, 91, 92, 93, 94, 95, 96, 97, 98, 99, 100, 101, 102, 103, 104, 105, 106, 107] [] [14, 11, 0] [14, 11, 0] 1062 st
def aca_cok (st : Stt) : Bool := canAok [0, 1, 2, 3, 4, 5, 7, 8, 10, 12, 13, 14, 15, 16, 17, 18, 19, 20, 21, 22, 23, 24, 25, 26, 27, 28, 29, 30, 31, 32, 33, 34, 35, 36, 37, 38, 39, 40, 41, 42, 43, 44, 45, 46, 47, 48, 49, 50, 51, 52, 53, 54, 55, 56, 57, 58, 59, 60, 61, 62, 63, 64, 65, 66, 67, 68, 69, 70, 71, 74, 75, 76, 77, 78, 79, 80, 81, 82, 83, 84, 85, 86, 87, 88, 89, 90, 91, 92, 93, 94, 95, 96, 97, 98, 99, 100, 101, 102, 103, 104, 105, 106, 107] [] [14, 11, 0] [14, 11, 0] 1062 st
def aca_read (st : Stt) : Option (aca_U × aca_V) := aca_rd (aca_cok st && (staysA [] [14, 11, 0] st.own && juAll [0, 1, 2, 3, 4, 5, 7, 8, 10, 12, 13, 14, 15, 16, 17, 18, 19, 20, 21, 22, 23, 24, 25, 26, 27, 28, 29, 30, 31, 32, 33, 34, 35, 36, 37, 38, 39, 40, 41, 42, 43, 44, 45, 46, 47, 48, 49, 50, 51, 52, 53, 54, 55, 56, 57, 58, 59, 60, 61, 62, 63, 64, 65, 66, 67, 68, 69, 70, 71, 74, 75, 76, 77, 78, 79, 80, 81, 82, 83, 84, 85, 86, 87, 88, 89, 90, 91, 92, 93, 94, 95, 96, 97, 98, 99, 100, 101, 102, 103, 104, 105, 106, 107] (aca_can st).tm 108)) [(aca_can st).tm[6]?, (aca_can st).tm[9]?, (aca_can st).tm[11]?, (aca_can st).tm[72]?, (aca_can st).tm[73]?] (aca_can st).own
set_option maxRecDepth 100000 in
set_option maxHeartbeats 4000000 in
theorem aca_rd_ok {b : Bool} {tm : List AV} {own : Own} {u : aca_U} {v : aca_V} (hj : b = true → juAll [0, 1, 2, 3, 4, 5, 7, 8, 10, 12, 13, 14, 15, 16, 17, 18, 19, 20, 21, 22, 23, 24, 25, 26, 27, 28, 29, 30, 31, 32, 33, 34, 35, 36, 37, 38, 39, 40, 41, 42, 43, 44, 45, 46, 47, 48, 49, 50, 51, 52, 53, 54, 55, 56, 57, 58, 59, 60, 61, 62, 63, 64, 65, 66, 67, 68, 69, 70, 71, 74, 75, 76, 77, 78, 79, 80, 81, 82, 83, 84, 85, 86, 87, 88, 89, 90, 91, 92, 93, 94, 95, 96, 97, 98, 99, 100, 101, 102, 103, 104, 105, 106, 107] tm 108 = true) (h : aca_rd b [tm[6]?, tm[9]?, tm[11]?, tm[72]?, tm[73]?] own = some (u, v)) : b = true ∧ tm = (aca_St u v).tm ∧ own = (aca_St u v).own := by
  unfold aca_rd at h
  split at h
  · rename_i q0 q1 q2 q3 q4 ht
    simp only [List.cons.injEq, and_true] at ht
    have h := Option.some.inj h
    have hu := congrArg Prod.fst h
    have hv := congrArg Prod.snd h
    dsimp only at hu hv
    subst hu
    subst hv
    refine ⟨rfl, (tm_fill (hj rfl) (Lv := [(6, .one (.v false (.bool q0))), (9, .one (.d false false (.prod (.prod (.int .i64) (.prod (.int .i64) (.prod (.int .i64) (.int .i64)))) (.prod (.int .i64) (.prod (.int .i64) (.prod (.int .i64) (.int .i64))))) q1)), (11, .one (.d false false (.prod (.prod (.int .i64) (.prod (.int .i64) (.prod (.int .i64) (.int .i64)))) (.prod (.int .i64) (.prod (.int .i64) (.prod (.int .i64) (.int .i64))))) q2)), (72, .one (.v false (.int .i64 q3))), (73, .one (.v false (.int .i64 q4)))]) (by kernel_rfl) (by simp only [allGet, ht, and_true])).trans (by kernel_rfl), rfl⟩
  · cases h
theorem aca_read_ok (st : Stt) (u : aca_U) (v : aca_V) (h : aca_read st = some (u, v)) : aca_cok st = true ∧ staysA [] [14, 11, 0] st.own = true ∧ aca_can st = aca_St u v := by
  obtain ⟨h1, h2, h3⟩ := aca_rd_ok (fun hb => by rw [Bool.and_eq_true, Bool.and_eq_true] at hb; exact hb.2.2) h
  rw [Bool.and_eq_true, Bool.and_eq_true] at h1
  refine ⟨h1.1, h1.2.1, ?_⟩
  have e : aca_can st = ⟨(aca_can st).tm, (aca_can st).own, 1062⟩ := by kernel_rfl
  rw [e, h2, h3]
  rfl
noncomputable def aca_cond (u : aca_U) (v : aca_V) : Bool := runC (aca_step u) v
noncomputable def aca_g (u : aca_U) (v : aca_V) : Nat × aca_V := runG (aca_step u) v
theorem aca_hg : ∀ (u : aca_U) (v : aca_V), aca_cond u v = true → loopN (aca_step u) ((fun u v => runF (aca_step u) v) u v) v = some (aca_g u v) := by
  exact fun u v h => run_hg h
noncomputable def aca_m (st : Stt) : Option (Tr (Ex × Stt)) := sumM aca_read aca_cond aca_St aca_g [(0, .ret), (1, .exit 0)] st
noncomputable def abG_L63 : FuncId → Loops := addL 7 [0, 1, 0, 1, 1, 1, 1, 1, 1, 1, 1] aca_m abG_L62
set_option maxRecDepth 100000 in
set_option maxHeartbeats 4000000 in
theorem abG_L63_ok : LoopsOK Try.prog abG_L63 :=
  loop_sumF (body := (bodyOf Try.prog 7)) (c := (loopOf (bodyOf Try.prog 7) [1, 1, 1, 1, 1, 1, 1, 1, 0, 1, 0])) (kinds := [.ret, .exit 0]) (allow := [(0, .ret), (1, .exit 0)]) (St := aca_St) (step := aca_step) (W := [0, 1, 2, 3, 4, 5, 7, 8, 10, 12, 13, 14, 15, 16, 17, 18, 19, 20, 21, 22, 23, 24, 25, 26, 27, 28, 29, 30, 31, 32, 33, 34, 35, 36, 37, 38, 39, 40, 41, 42, 43, 44, 45, 46, 47, 48, 49, 50, 51, 52, 53, 54, 55, 56, 57, 58, 59, 60, 61, 62, 63, 64, 65, 66, 67, 68, 69, 70, 71, 74, 75, 76, 77, 78, 79, 80, 81, 82, 83, 84, 85, 86, 87, 88, 89, 90, 91, 92, 93, 94, 95, 96, 97, 98, 99, 100, 101, 102, 103, 104, 105, 106, 107]) (As := []) (ks := [14, 11, 0]) (dd := [14, 11, 0]) (nx := 1062) (n := 100000) (g := aca_g) (cond := aca_cond) (fuel := (fun u v => runF (aca_step u) v)) (read := aca_read) (by kernel_rfl) (abF_S62_ok) (abG_L62_ok) 7 ⟨Try.f7, by kernel_rfl, by kernel_rfl⟩ (by kernel_rfl) (by kernel_rfl) (by kernel_rfl) aca_step_eq aca_hg aca_read_ok
end Go.Proofs.Ytaidlflnkdamkaa
