/-
  Layer 6: the example; validity, lengths, membership.
-/
import Derived.Test.YtklagccjkbajiaaProg
import Derived.Test.YtklagccjkbajiaaFvX
import Derived.Test.YtklagccjkbajiaaFvZ
import Derived.Test.YtklagccjkbajiaaAut
import Derived.Test.YtklagccjkbajiaaRd
import Derived.Test.YtklagccjkbajiaaPl
import Derived.Test.YtklagccjkbajiaaScn
import Derived.Test.YtklagccjkbajiaaRunM
namespace Go.Proofs.Ytklagccjkbajiaa
open Go
set_option maxRecDepth 100000 in
theorem aw18_tree : evalF Try.prog S0 (opens [32, 34, 35, 43, 44, 45, 46, 50, 51, 52, 53, 54, 55, 56, 57, 58, 59, 61, 62, 63, 64, 65, 66]) L0 9 18 [] = .ret (.one (.v true (.bool true))) := by kernel_rfl
noncomputable def ruA_S52 : Sums := addS 18 gTrue S0
theorem ruA_S52_ok : SumOK Try.prog ruA_S52 := addS_ok (gTrue_ok (by kernel_rfl) (S0_ok _) (L0_ok _) aw18_tree) (S0_ok _)
abbrev va_U : Type := (Ty.list (.prod (.int .i64) (.int .i64))).den × (Ty.list (.prod (.int .i64) (.int .i64))).den × Int
abbrev va_V : Type := Bool × Int
noncomputable def va_St (u : va_U) (v : va_V) : Stt := ⟨[.one (.d false false (.prod (.int .i64) (.int .i64)) u.1), .one .junk, .one (.v false (.bool v.1)), .one .junk, .one .junk, .one (.d false false (.prod (.int .i64) (.int .i64)) u.2.1), .one (.v false (.int .i64 u.2.2)), .one (.v false (.int .i64 v.2)), .one .junk, .one .junk, .one .junk, .one .junk, .one .junk, .one .junk, .one .junk, .one .junk, .one .junk, .one .junk, .one .junk, .one .junk, .one .junk, .one .junk, .one .junk, .one .junk, .one .junk, .one .junk, .one .junk, .one .junk, .one .junk, .one .junk, .one .junk, .one .junk, .one .junk, .one .junk, .one .junk, .one .junk, .one .junk, .one .junk], [], 1004⟩
def el_ii (l : (Ty.list (Ty.prod (Ty.int IntKind.i64) (Ty.int IntKind.i64))).den) (i : Int) : (Int × Int) := elm (Ty.prod (Ty.int IntKind.i64) (Ty.int IntKind.i64)) l i
noncomputable def va_step (u : va_U) (v : va_V) : Tr (va_V ⊕ (Nat × va_V)) :=
  match u, v with
  | (q0, q2, q3), (q1, q4) => .br (decide (q4 < q3)) (.br (decide ((0 : Int) ≤ q4) && decide (q4 < (↑(List.length q2) : Int))) (.br ((bif bif decide (Prod.fst (el_ii q2 q4) ≥ Prod.snd (el_ii q2 q4)) then true else !bif decide (Prod.fst (el_ii q2 q4) ≥ (-1048576 : Int)) then decide (Prod.snd (el_ii q2 q4) ≤ (1048576 : Int)) else false then true else (bif decide (q4 > (0 : Int)) then (decide ((0 : Int) ≤ IntKind.wrap IntKind.i64 (q4 - (1 : Int))) && decide (IntKind.wrap IntKind.i64 (q4 - (1 : Int)) < (↑(List.length q0) : Int))) else true))) (.br (bif bif decide (Prod.fst (el_ii q2 q4) ≥ Prod.snd (el_ii q2 q4)) then true else !bif decide (Prod.fst (el_ii q2 q4) ≥ (-1048576 : Int)) then decide (Prod.snd (el_ii q2 q4) ≤ (1048576 : Int)) else false then true else bif decide (q4 > (0 : Int)) then decide (Prod.fst (el_ii q2 q4) ≤ Prod.snd (el_ii q0 (IntKind.wrap IntKind.i64 (q4 - (1 : Int))))) else false) (.ret (.inr (0, (false, q4)))) (.ret (.inl (q1, IntKind.wrap IntKind.i64 (q4 + (1 : Int)))))) (.bad 117)) (.bad 29)) (.ret (.inr (1, (q1, q4))))
set_option maxRecDepth 100000 in
set_option maxHeartbeats 4000000 in
theorem va_step_eq : ∀ (u : va_U) (v : va_V), (evalC Try.prog (evalB Try.prog ruA_S52 (opens []) L0 7).1 (evalB Try.prog ruA_S52 (opens []) L0 7).2 (opens []) (L0 12) 100000 (0 :: [0, 1, 0, 1]) (loopOf (bodyOf Try.prog 12) [1, 0, 1, 0]) (va_St u v) []).bind (finF [1, 3, 4, 8, 9, 10, 11, 12, 13, 14, 15, 16, 17, 18, 19, 20, 21, 22, 23, 24, 25, 26, 27, 28, 29, 30, 31, 32, 33, 34, 35, 36, 37] [] [] [] 1004) = (va_step u v).bind (outA (va_St u) [.ret, .exit 0]) := by
  rintro ⟨q0, q2, q3⟩ ⟨q1, q4⟩
  kernel_rfl
noncomputable def va_rd (b : Bool) (o0 : Option AV) (o2 : Option AV) (o5 : Option AV) (o6 : Option AV) (o7 : Option AV) (own : Own) : Option (va_U × va_V) := zrT b <| zrO o0 fun za1 => zrA1 za1 fun zc2 => zrD (.prod (.int .i64) (.int .i64)) zc2 fun q0 => zrO o2 fun za3 => zrA1 za3 fun zc4 => zrB zc4 fun q1 => zrO o5 fun za5 => zrA1 za5 fun zc6 => zrD (.prod (.int .i64) (.int .i64)) zc6 fun q2 => zrO o6 fun za7 => zrA1 za7 fun zc8 => zrI .i64 zc8 fun q3 => zrO o7 fun za9 => zrA1 za9 fun zc10 => zrI .i64 zc10 fun q4 => zrN own <| some ((q0, q2, q3), (q1, q4))
noncomputable def va_can (st : Stt) : Stt := canA [1, 3, 4, 8, 9, 10, 11, 12, 13, 14, 15, 16, 17, 18, 19, 20, 21, 22, 23, 24, 25, 26, 27, 28, 29, 30, 31, 32, 33, 34, 35, 36, 37] [] [] [] 1004 st
noncomputable def va_cok (st : Stt) : Bool := canAok [1, 3, 4, 8, 9, 10, 11, 12, 13, 14, 15, 16, 17, 18, 19, 20, 21, 22, 23, 24, 25, 26, 27, 28, 29, 30, 31, 32, 33, 34, 35, 36, 37] [] [] [] 1004 st
noncomputable def va_read (st : Stt) : Option (va_U × va_V) := va_rd (va_cok st && (staysA [] [] st.own && juAll [1, 3, 4, 8, 9, 10, 11, 12, 13, 14, 15, 16, 17, 18, 19, 20, 21, 22, 23, 24, 25, 26, 27, 28, 29, 30, 31, 32, 33, 34, 35, 36, 37] (va_can st).tm 38)) (va_can st).tm[0]? (va_can st).tm[2]? (va_can st).tm[5]? (va_can st).tm[6]? (va_can st).tm[7]? (va_can st).own
set_option maxRecDepth 100000 in
set_option maxHeartbeats 4000000 in
theorem va_rd_ok {b : Bool} {tm : List AV} {own : Own} {u : va_U} {v : va_V} (hj : b = true → juAll [1, 3, 4, 8, 9, 10, 11, 12, 13, 14, 15, 16, 17, 18, 19, 20, 21, 22, 23, 24, 25, 26, 27, 28, 29, 30, 31, 32, 33, 34, 35, 36, 37] tm 38 = true) (h : va_rd b tm[0]? tm[2]? tm[5]? tm[6]? tm[7]? own = some (u, v)) : b = true ∧ tm = (va_St u v).tm ∧ own = (va_St u v).own := by
  unfold va_rd at h
  obtain ⟨rfl, h0⟩ := zrT_some h
  obtain ⟨za1, e0, h1⟩ := zrO_some h0
  obtain ⟨zc2, rfl, h2⟩ := zrA1_some h1
  obtain ⟨q0, rfl, h3⟩ := zrD_some h2
  obtain ⟨za3, e2, h4⟩ := zrO_some h3
  obtain ⟨zc4, rfl, h5⟩ := zrA1_some h4
  obtain ⟨q1, rfl, h6⟩ := zrB_some h5
  obtain ⟨za5, e5, h7⟩ := zrO_some h6
  obtain ⟨zc6, rfl, h8⟩ := zrA1_some h7
  obtain ⟨q2, rfl, h9⟩ := zrD_some h8
  obtain ⟨za7, e6, h10⟩ := zrO_some h9
  obtain ⟨zc8, rfl, h11⟩ := zrA1_some h10
  obtain ⟨q3, rfl, h12⟩ := zrI_some h11
  obtain ⟨za9, e7, h13⟩ := zrO_some h12
  obtain ⟨zc10, rfl, h14⟩ := zrA1_some h13
  obtain ⟨q4, rfl, h15⟩ := zrI_some h14
  obtain ⟨rfl, h16⟩ := zrN_some h15
  have h := Option.some.inj h16
  have hu := congrArg Prod.fst h
  have hv := congrArg Prod.snd h
  dsimp only at hu hv
  subst hu
  subst hv
  exact ⟨rfl, (tm_fill (hj rfl) (Lv := [(0, .one (.d false false (.prod (.int .i64) (.int .i64)) q0)), (2, .one (.v false (.bool q1))), (5, .one (.d false false (.prod (.int .i64) (.int .i64)) q2)), (6, .one (.v false (.int .i64 q3))), (7, .one (.v false (.int .i64 q4)))]) (by kernel_rfl) ⟨e0, e2, e5, e6, e7, trivial⟩).trans (by kernel_rfl), rfl⟩
theorem va_read_ok (st : Stt) (u : va_U) (v : va_V) (h : va_read st = some (u, v)) : va_cok st = true ∧ staysA [] [] st.own = true ∧ va_can st = va_St u v := by
  obtain ⟨h1, h2, h3⟩ := va_rd_ok (fun hb => by rw [Bool.and_eq_true, Bool.and_eq_true] at hb; exact hb.2.2) h
  rw [Bool.and_eq_true, Bool.and_eq_true] at h1
  refine ⟨h1.1, h1.2.1, ?_⟩
  have e : va_can st = ⟨(va_can st).tm, (va_can st).own, 1004⟩ := by kernel_rfl
  rw [e, h2, h3]
  rfl
noncomputable def va_cond (u : va_U) (v : va_V) : Bool := runC (va_step u) v
noncomputable def va_g (u : va_U) (v : va_V) : Nat × va_V := runG (va_step u) v
theorem va_hg : ∀ (u : va_U) (v : va_V), va_cond u v = true → loopN (va_step u) ((fun u v => runF (va_step u) v) u v) v = some (va_g u v) := by
  exact fun u v h => run_hg h
noncomputable def va_m (st : Stt) : Option (Tr (Ex × Stt)) := sumM va_read va_cond va_St va_g [(0, .ret), (1, .exit 0)] st
noncomputable def ruA_L53 : FuncId → Loops := addL 12 [0, 1, 0, 1] va_m L0
set_option maxRecDepth 100000 in
set_option maxHeartbeats 4000000 in
theorem ruA_L53_ok : LoopsOK Try.prog ruA_L53 :=
  loop_sumF (body := (bodyOf Try.prog 12)) (c := (loopOf (bodyOf Try.prog 12) [1, 0, 1, 0])) (kinds := [.ret, .exit 0]) (allow := [(0, .ret), (1, .exit 0)]) (St := va_St) (step := va_step) (W := [1, 3, 4, 8, 9, 10, 11, 12, 13, 14, 15, 16, 17, 18, 19, 20, 21, 22, 23, 24, 25, 26, 27, 28, 29, 30, 31, 32, 33, 34, 35, 36, 37]) (As := []) (ks := []) (dd := []) (nx := 1004) (n := 100000) (g := va_g) (cond := va_cond) (fuel := (fun u v => runF (va_step u) v)) (read := va_read) (by kernel_rfl) (ruA_S52_ok) (L0_ok _) 7 ⟨Try.f12, by kernel_rfl, by kernel_rfl⟩ (by kernel_rfl) (by kernel_rfl) (by kernel_rfl) va_step_eq va_hg va_read_ok
abbrev vb_U : Type := (Ty.list (.prod (.int .i64) (.int .i64))).den
abbrev vb_V : Type := Bool × Int
noncomputable def vb_St (u : vb_U) (v : vb_V) : Stt := ⟨[.one (.d false false (.prod (.int .i64) (.int .i64)) u), .one .junk, .one (.v false (.bool v.1)), .one (.v false (.int .i64 v.2)), .one .junk, .one .junk, .one .junk, .one .junk, .one .junk, .one .junk, .one .junk, .one .junk, .one .junk, .one .junk, .one .junk, .one .junk, .one .junk, .one .junk, .one .junk, .one .junk, .one .junk, .one .junk, .one .junk, .one .junk, .one .junk, .one .junk, .one .junk, .one .junk, .one .junk, .one .junk, .one .junk, .one .junk, .one .junk, .one .junk, .one .junk, .one .junk, .one .junk, .one .junk, .one .junk, .one .junk, .one .junk, .one .junk, .one .junk, .one .junk, .one .junk, .one .junk, .one .junk, .one .junk, .one .junk, .one .junk, .one .junk, .one .junk, .one .junk, .one .junk, .one .junk, .one .junk, .one .junk], [], 1002⟩
noncomputable def vb_step (u : vb_U) (v : vb_V) : Tr (vb_V ⊕ (Nat × vb_V)) :=
  match u, v with
  | q0, (q1, q2) => .br (decide (q2 < (↑(List.length q0) : Int))) (.br (decide ((0 : Int) ≤ q2) && decide (q2 < (↑(List.length q0) : Int))) (.br (decide ((0 : Int) ≤ q2) && decide (q2 < (↑(List.length q0) : Int))) (.br ((bif decide (Prod.fst (el_ii q0 q2) ≥ Prod.snd (el_ii q0 q2)) then true else (decide ((0 : Int) ≤ q2) && decide (q2 < (↑(List.length q0) : Int))))) (.br ((bif bif decide (Prod.fst (el_ii q0 q2) ≥ Prod.snd (el_ii q0 q2)) then true else !bif decide (Prod.fst (el_ii q0 q2) ≥ (-1048576 : Int)) then decide (Prod.fst (el_ii q0 q2) ≤ (1048576 : Int)) else false then true else (decide ((0 : Int) ≤ q2) && decide (q2 < (↑(List.length q0) : Int))))) (.br ((bif bif bif decide (Prod.fst (el_ii q0 q2) ≥ Prod.snd (el_ii q0 q2)) then true else !bif decide (Prod.fst (el_ii q0 q2) ≥ (-1048576 : Int)) then decide (Prod.fst (el_ii q0 q2) ≤ (1048576 : Int)) else false then true else !bif decide (Prod.snd (el_ii q0 q2) ≥ (-1048576 : Int)) then decide (Prod.snd (el_ii q0 q2) ≤ (1048576 : Int)) else false then true else (bif decide (q2 > (0 : Int)) then ((decide ((0 : Int) ≤ q2) && decide (q2 < (↑(List.length q0) : Int))) && (decide ((0 : Int) ≤ IntKind.wrap IntKind.i64 (q2 - (1 : Int))) && decide (IntKind.wrap IntKind.i64 (q2 - (1 : Int)) < (↑(List.length q0) : Int)))) else true))) (.br (bif bif bif decide (Prod.fst (el_ii q0 q2) ≥ Prod.snd (el_ii q0 q2)) then true else !bif decide (Prod.fst (el_ii q0 q2) ≥ (-1048576 : Int)) then decide (Prod.fst (el_ii q0 q2) ≤ (1048576 : Int)) else false then true else !bif decide (Prod.snd (el_ii q0 q2) ≥ (-1048576 : Int)) then decide (Prod.snd (el_ii q0 q2) ≤ (1048576 : Int)) else false then true else bif decide (q2 > (0 : Int)) then decide (Prod.fst (el_ii q0 q2) ≤ Prod.snd (el_ii q0 (IntKind.wrap IntKind.i64 (q2 - (1 : Int))))) else false) (.ret (.inr (0, (false, q2)))) (.ret (.inl (q1, IntKind.wrap IntKind.i64 (q2 + (1 : Int)))))) (.bad 117)) (.bad 117)) (.bad 117)) (.bad 29)) (.bad 29)) (.ret (.inr (1, (q1, q2))))
set_option maxRecDepth 100000 in
set_option maxHeartbeats 4000000 in
theorem vb_step_eq : ∀ (u : vb_U) (v : vb_V), (evalC Try.prog (evalB Try.prog ruA_S52 (opens []) ruA_L53 7).1 (evalB Try.prog ruA_S52 (opens []) ruA_L53 7).2 (opens []) (ruA_L53 13) 100000 (0 :: [0, 1, 0, 1]) (loopOf (bodyOf Try.prog 13) [1, 0, 1, 0]) (vb_St u v) []).bind (finF [1, 4, 5, 6, 7, 8, 9, 10, 11, 12, 13, 14, 15, 16, 17, 18, 19, 20, 21, 22, 23, 24, 25, 26, 27, 28, 29, 30, 31, 32, 33, 34, 35, 36, 37, 38, 39, 40, 41, 42, 43, 44, 45, 46, 47, 48, 49, 50, 51, 52, 53, 54, 55, 56] [] [] [] 1002) = (vb_step u v).bind (outA (vb_St u) [.ret, .exit 0]) := by
  rintro q0 ⟨q1, q2⟩
  kernel_rfl
noncomputable def vb_rd (b : Bool) (o0 : Option AV) (o2 : Option AV) (o3 : Option AV) (own : Own) : Option (vb_U × vb_V) := zrT b <| zrO o0 fun za1 => zrA1 za1 fun zc2 => zrD (.prod (.int .i64) (.int .i64)) zc2 fun q0 => zrO o2 fun za3 => zrA1 za3 fun zc4 => zrB zc4 fun q1 => zrO o3 fun za5 => zrA1 za5 fun zc6 => zrI .i64 zc6 fun q2 => zrN own <| some (q0, (q1, q2))
noncomputable def vb_can (st : Stt) : Stt := canA [1, 4, 5, 6, 7, 8, 9, 10, 11, 12, 13, 14, 15, 16, 17, 18, 19, 20, 21, 22, 23, 24, 25, 26, 27, 28, 29, 30, 31, 32, 33, 34, 35, 36, 37, 38, 39, 40, 41, 42, 43, 44, 45, 46, 47, 48, 49, 50, 51, 52, 53, 54, 55, 56] [] [] [] 1002 st
noncomputable def vb_cok (st : Stt) : Bool := canAok [1, 4, 5, 6, 7, 8, 9, 10, 11, 12, 13, 14, 15, 16, 17, 18, 19, 20, 21, 22, 23, 24, 25, 26, 27, 28, 29, 30, 31, 32, 33, 34, 35, 36, 37, 38, 39, 40, 41, 42, 43, 44, 45, 46, 47, 48, 49, 50, 51, 52, 53, 54, 55, 56] [] [] [] 1002 st
noncomputable def vb_read (st : Stt) : Option (vb_U × vb_V) := vb_rd (vb_cok st && (staysA [] [] st.own && juAll [1, 4, 5, 6, 7, 8, 9, 10, 11, 12, 13, 14, 15, 16, 17, 18, 19, 20, 21, 22, 23, 24, 25, 26, 27, 28, 29, 30, 31, 32, 33, 34, 35, 36, 37, 38, 39, 40, 41, 42, 43, 44, 45, 46, 47, 48, 49, 50, 51, 52, 53, 54, 55, 56] (vb_can st).tm 57)) (vb_can st).tm[0]? (vb_can st).tm[2]? (vb_can st).tm[3]? (vb_can st).own
set_option maxRecDepth 100000 in
set_option maxHeartbeats 4000000 in
theorem vb_rd_ok {b : Bool} {tm : List AV} {own : Own} {u : vb_U} {v : vb_V} (hj : b = true → juAll [1, 4, 5, 6, 7, 8, 9, 10, 11, 12, 13, 14, 15, 16, 17, 18, 19, 20, 21, 22, 23, 24, 25, 26, 27, 28, 29, 30, 31, 32, 33, 34, 35, 36, 37, 38, 39, 40, 41, 42, 43, 44, 45, 46, 47, 48, 49, 50, 51, 52, 53, 54, 55, 56] tm 57 = true) (h : vb_rd b tm[0]? tm[2]? tm[3]? own = some (u, v)) : b = true ∧ tm = (vb_St u v).tm ∧ own = (vb_St u v).own := by
  unfold vb_rd at h
  obtain ⟨rfl, h0⟩ := zrT_some h
  obtain ⟨za1, e0, h1⟩ := zrO_some h0
  obtain ⟨zc2, rfl, h2⟩ := zrA1_some h1
  obtain ⟨q0, rfl, h3⟩ := zrD_some h2
  obtain ⟨za3, e2, h4⟩ := zrO_some h3
  obtain ⟨zc4, rfl, h5⟩ := zrA1_some h4
  obtain ⟨q1, rfl, h6⟩ := zrB_some h5
  obtain ⟨za5, e3, h7⟩ := zrO_some h6
  obtain ⟨zc6, rfl, h8⟩ := zrA1_some h7
  obtain ⟨q2, rfl, h9⟩ := zrI_some h8
  obtain ⟨rfl, h10⟩ := zrN_some h9
  have h := Option.some.inj h10
  have hu := congrArg Prod.fst h
  have hv := congrArg Prod.snd h
  dsimp only at hu hv
  subst hu
  subst hv
  exact ⟨rfl, (tm_fill (hj rfl) (Lv := [(0, .one (.d false false (.prod (.int .i64) (.int .i64)) q0)), (2, .one (.v false (.bool q1))), (3, .one (.v false (.int .i64 q2)))]) (by kernel_rfl) ⟨e0, e2, e3, trivial⟩).trans (by kernel_rfl), rfl⟩
theorem vb_read_ok (st : Stt) (u : vb_U) (v : vb_V) (h : vb_read st = some (u, v)) : vb_cok st = true ∧ staysA [] [] st.own = true ∧ vb_can st = vb_St u v := by
  obtain ⟨h1, h2, h3⟩ := vb_rd_ok (fun hb => by rw [Bool.and_eq_true, Bool.and_eq_true] at hb; exact hb.2.2) h
  rw [Bool.and_eq_true, Bool.and_eq_true] at h1
  refine ⟨h1.1, h1.2.1, ?_⟩
  have e : vb_can st = ⟨(vb_can st).tm, (vb_can st).own, 1002⟩ := by kernel_rfl
  rw [e, h2, h3]
  rfl
noncomputable def vb_cond (u : vb_U) (v : vb_V) : Bool := runC (vb_step u) v
noncomputable def vb_g (u : vb_U) (v : vb_V) : Nat × vb_V := runG (vb_step u) v
theorem vb_hg : ∀ (u : vb_U) (v : vb_V), vb_cond u v = true → loopN (vb_step u) ((fun u v => runF (vb_step u) v) u v) v = some (vb_g u v) := by
  exact fun u v h => run_hg h
noncomputable def vb_m (st : Stt) : Option (Tr (Ex × Stt)) := sumM vb_read vb_cond vb_St vb_g [(0, .ret), (1, .exit 0)] st
noncomputable def ruA_L54 : FuncId → Loops := addL 13 [0, 1, 0, 1] vb_m ruA_L53
set_option maxRecDepth 100000 in
set_option maxHeartbeats 4000000 in
theorem ruA_L54_ok : LoopsOK Try.prog ruA_L54 :=
  loop_sumF (body := (bodyOf Try.prog 13)) (c := (loopOf (bodyOf Try.prog 13) [1, 0, 1, 0])) (kinds := [.ret, .exit 0]) (allow := [(0, .ret), (1, .exit 0)]) (St := vb_St) (step := vb_step) (W := [1, 4, 5, 6, 7, 8, 9, 10, 11, 12, 13, 14, 15, 16, 17, 18, 19, 20, 21, 22, 23, 24, 25, 26, 27, 28, 29, 30, 31, 32, 33, 34, 35, 36, 37, 38, 39, 40, 41, 42, 43, 44, 45, 46, 47, 48, 49, 50, 51, 52, 53, 54, 55, 56]) (As := []) (ks := []) (dd := []) (nx := 1002) (n := 100000) (g := vb_g) (cond := vb_cond) (fuel := (fun u v => runF (vb_step u) v)) (read := vb_read) (by kernel_rfl) (ruA_S52_ok) (ruA_L53_ok) 7 ⟨Try.f13, by kernel_rfl, by kernel_rfl⟩ (by kernel_rfl) (by kernel_rfl) (by kernel_rfl) vb_step_eq vb_hg vb_read_ok
theorem el_r {L : Rl} {i : Nat} (h : i < L.length) : el_ii L (i : Int) = L[i] := elm_lt (t := .prod (.int .i64) (.int .i64)) h
def bdA (L : Rl) (i : Nat) : Bool := bif bif decide (Prod.fst (el_ii L (i : Int)) ≥ Prod.snd (el_ii L (i : Int))) then true else !bif decide (Prod.fst (el_ii L (i : Int)) ≥ (-1048576 : Int)) then decide (Prod.snd (el_ii L (i : Int)) ≤ (1048576 : Int)) else false then true else bif decide ((i : Int) > (0 : Int)) then decide (Prod.fst (el_ii L (i : Int)) ≤ Prod.snd (el_ii L (IntKind.wrap IntKind.i64 ((i : Int) - (1 : Int))))) else false
def bdB (L : Rl) (i : Nat) : Bool := bif bif bif decide (Prod.fst (el_ii L (i : Int)) ≥ Prod.snd (el_ii L (i : Int))) then true else !bif decide (Prod.fst (el_ii L (i : Int)) ≥ (-1048576 : Int)) then decide (Prod.fst (el_ii L (i : Int)) ≤ (1048576 : Int)) else false then true else !bif decide (Prod.snd (el_ii L (i : Int)) ≥ (-1048576 : Int)) then decide (Prod.snd (el_ii L (i : Int)) ≤ (1048576 : Int)) else false then true else bif decide ((i : Int) > (0 : Int)) then decide (Prod.fst (el_ii L (i : Int)) ≤ Prod.snd (el_ii L (IntKind.wrap IntKind.i64 ((i : Int) - (1 : Int))))) else false
theorem pre_in {L : Rl} {i : Nat} (h : i < L.length) (hn : L.length ≤ 100000) : (bif decide ((i : Int) > (0 : Int)) then (decide ((0 : Int) ≤ IntKind.wrap IntKind.i64 ((i : Int) - (1 : Int))) && decide (IntKind.wrap IntKind.i64 ((i : Int) - (1 : Int)) < (L.length : Int))) else true) = true ∧ (0 < i → el_ii L (IntKind.wrap IntKind.i64 ((i : Int) - (1 : Int))) = L[i - 1]) := by
  cases i with
  | zero => exact ⟨rfl, fun h => absurd h (Nat.lt_irrefl _)⟩
  | succ i =>
    have e : IntKind.wrap IntKind.i64 (((i + 1 : Nat) : Int) - (1 : Int)) = (i : Int) := by rw [wid (by omega) (by omega)]; omega
    rw [e]
    refine ⟨?_, fun _ => el_r (by omega)⟩
    rw [decide_eq_true (show ((i + 1 : Nat) : Int) > 0 by omega), decide_eq_true (show (0 : Int) ≤ (i : Int) by omega), decide_eq_true (show (i : Int) < (L.length : Int) by omega)]
    rfl
theorem bd_iff (f : Rl → Nat → Bool) (hf : f = bdA ∨ f = bdB) {L : Rl} (hn : L.length ≤ 100000) : (∀ i, i < L.length → (!f L i) = true) ↔ valR L := by
  rw [valR_good]
  have one : ∀ i (h : i < L.length), (!f L i) = true ↔ good (-1048577) L i h := fun i h => by
    have e := el_r h
    unfold good
    by_cases h0 : 0 < i
    · have e2 := (pre_in h hn).2 h0
      have d : decide ((i : Int) > (0 : Int)) = true := decide_eq_true (by omega)
      rcases hf with rfl | rfl
      · unfold bdA
        rw [e, e2, d]
        simp [Bool.cond_eq_ite]
        constructor
        · intro h; exact ⟨by omega, by omega, by omega, fun _ => by omega⟩
        · intro ⟨a, b, c, d⟩; have := d h0; omega
      · unfold bdB
        rw [e, e2, d]
        simp [Bool.cond_eq_ite]
        constructor
        · intro h; exact ⟨by omega, by omega, by omega, fun _ => by omega⟩
        · intro ⟨a, b, c, d⟩; have := d h0; omega
    · have d : decide ((i : Int) > (0 : Int)) = false := decide_eq_false (by omega)
      rcases hf with rfl | rfl
      · unfold bdA
        rw [e, d]
        simp [Bool.cond_eq_ite]
        first
          | (intro h1; exact ⟨fun h => ⟨by omega, by omega, fun g => absurd g h0⟩, fun ⟨a, b, c⟩ => by omega⟩)
          | (constructor
             · intro h; exact ⟨by omega, by omega, by omega, fun g => absurd g h0⟩
             · intro ⟨a, b, c, d⟩; omega)
      · unfold bdB
        rw [e, d]
        simp [Bool.cond_eq_ite]
        first
          | (intro h1; exact ⟨fun h => ⟨by omega, by omega, fun g => absurd g h0⟩, fun ⟨a, b, c⟩ => by omega⟩)
          | (constructor
             · intro h; exact ⟨by omega, by omega, by omega, fun g => absurd g h0⟩
             · intro ⟨a, b, c, d⟩; omega)
  exact ⟨fun h i hi => (one i hi).1 (h i hi), fun h i hi => (one i hi).2 (h i hi)⟩
theorem va_run {L : Rl} (hn : L.length ≤ 100000) : va_cond (L, L, (L.length : Int)) (false, 0) = true ∧ ((valR L ∧ va_g (L, L, (L.length : Int)) (false, 0) = (1, (false, (L.length : Int)))) ∨ (¬ valR L ∧ ∃ j : Nat, va_g (L, L, (L.length : Int)) (false, 0) = (0, (false, (j : Int))))) := by
  obtain ⟨h1, h2⟩ := run_scan (step := va_step (L, L, (L.length : Int))) (St := fun i => (false, (i : Int))) (Lv := fun i => (0, (false, (i : Int)))) (t := (1, (false, (L.length : Int)))) (n := L.length) (p := fun i => !bdA L i) (fun i hi => by
    have c5 := (pre_in hi hn).1
    simp only [va_step, Tr.val, lt_t hi, nn_t, c5, wi1 hi (show (L.length : Int) ≤ 9223372036854775806 by omega), Bool.and_self, Bool.cond_self, cond_true]
    unfold bdA
    generalize (bif bif decide (Prod.fst (el_ii L (i : Int)) ≥ Prod.snd (el_ii L (i : Int))) then true else _ then true else _ : Bool) = b
    cases b <;> rfl) (by simp only [va_step, Tr.val, Int.lt_irrefl, decide_false, cond_false])
  refine ⟨h1, ?_⟩
  rcases h2 with ⟨h, h3⟩ | ⟨j, hj, hp, _, h4⟩
  · exact .inl ⟨(bd_iff bdA (.inl rfl) hn).1 h, h3⟩
  · refine .inr ⟨fun hv => ?_, j, h4⟩
    have := (bd_iff bdA (.inl rfl) hn).2 hv j hj
    rw [this] at hp; cases hp
theorem vb_run {L : Rl} (hn : L.length ≤ 100000) : vb_cond L (false, 0) = true ∧ ((valR L ∧ vb_g L (false, 0) = (1, (false, (L.length : Int)))) ∨ (¬ valR L ∧ ∃ j : Nat, vb_g L (false, 0) = (0, (false, (j : Int))))) := by
  obtain ⟨h1, h2⟩ := run_scan (step := vb_step L) (St := fun i => (false, (i : Int))) (Lv := fun i => (0, (false, (i : Int)))) (t := (1, (false, (L.length : Int)))) (n := L.length) (p := fun i => !bdB L i) (fun i hi => by
    have c5 := (pre_in hi hn).1
    simp only [vb_step, Tr.val, lt_t hi, nn_t, c5, wi1 hi (show (L.length : Int) ≤ 9223372036854775806 by omega), Bool.and_self, Bool.true_and, Bool.cond_self, cond_true]
    have c6 : (bif decide ((i : Int) > (0 : Int)) then (decide ((0 : Int) ≤ IntKind.wrap IntKind.i64 ((i : Int) - (1 : Int))) && decide (IntKind.wrap IntKind.i64 ((i : Int) - (1 : Int)) < (L.length : Int))) else true) = true := c5
    unfold bdB
    generalize (bif bif bif decide (Prod.fst (el_ii L (i : Int)) ≥ Prod.snd (el_ii L (i : Int))) then true else _ then true else _ then true else _ : Bool) = b
    cases b <;> rfl) (by simp only [vb_step, Tr.val, Int.lt_irrefl, decide_false, cond_false])
  refine ⟨h1, ?_⟩
  rcases h2 with ⟨h, h3⟩ | ⟨j, hj, hp, _, h4⟩
  · exact .inl ⟨(bd_iff bdB (.inr rfl) hn).1 h, h3⟩
  · refine .inr ⟨fun hv => ?_, j, h4⟩
    have := (bd_iff bdB (.inr rfl) hn).2 hv j hj
    rw [this] at hp; cases hp
theorem valB_t {L : Rl} (h : valR L) : valB L = true := valB_iff.2 h
theorem valB_f {L : Rl} (h : ¬ valR L) : valB L = false := by rw [← Bool.not_eq_true]; exact fun e => h (valB_iff.1 e)
set_option maxRecDepth 100000 in
theorem vac_tree (L : (Ty.list (.prod (.int .i64) (.int .i64))).den) : evalF Try.prog ruA_S52 (opens []) ruA_L54 9 12 [.one (.d false false (.prod (.int .i64) (.int .i64)) L)] = .br (((va_cond (L, L, (↑(List.length L) : Int)) (false, (0 : Int))) && (bif Nat.beq (Prod.fst (va_g (L, L, (↑(List.length L) : Int)) (false, (0 : Int)))) (0 : Nat) then true else (Nat.beq (Prod.fst (va_g (L, L, (↑(List.length L) : Int)) (false, (0 : Int)))) (1 : Nat))))) (.ret (.one (.v false (.bool (bif Nat.beq (Prod.fst (va_g (L, L, (↑(List.length L) : Int)) (false, (0 : Int)))) (0 : Nat) then Prod.fst (Prod.snd (va_g (L, L, (↑(List.length L) : Int)) (false, (0 : Int)))) else true))))) (.bad 116) := by kernel_rfl
theorem vac_val (L : (Ty.list (.prod (.int .i64) (.int .i64))).den) (hc : (decide (L.length ≤ 100000)) = true) : (.br (((va_cond (L, L, (↑(List.length L) : Int)) (false, (0 : Int))) && (bif Nat.beq (Prod.fst (va_g (L, L, (↑(List.length L) : Int)) (false, (0 : Int)))) (0 : Nat) then true else (Nat.beq (Prod.fst (va_g (L, L, (↑(List.length L) : Int)) (false, (0 : Int)))) (1 : Nat))))) (.ret (.one (.v false (.bool (bif Nat.beq (Prod.fst (va_g (L, L, (↑(List.length L) : Int)) (false, (0 : Int)))) (0 : Nat) then Prod.fst (Prod.snd (va_g (L, L, (↑(List.length L) : Int)) (false, (0 : Int)))) else true))))) (.bad 116) : Tr AV).val = some (.one (.v false (.bool (valB L)))) := by
  have hn := of_decide_eq_true hc
  obtain ⟨v1, v2⟩ := va_run hn
  show cond _ _ _ = _
  rcases v2 with ⟨h, g⟩ | ⟨h, j, g⟩
  · simp [v1, g, valB_t h, Nat.beq, Tr.val]
  · simp [v1, g, valB_f h, Nat.beq, Tr.val]
noncomputable def vac_g : List AV → Option (Tr AV)
  | [.one (.d _ _ (.prod (.int .i64) (.int .i64)) L)] => some (.br (decide (L.length ≤ 100000)) (.ret (.one (.v false (.bool (valB L))))) (.bad 900))
  | _ => none
set_option maxHeartbeats 4000000 in
theorem vac_ok : FunOK Try.prog 12 vac_g := by
  refine fun_ok (by kernel_rfl) (ruA_S52_ok) (ruA_L54_ok) 9 (On := (opens [])) (fun args t h => ?_)
  unfold vac_g at h
  split at h
  · rename_i _ _ L
    simp only [Option.some.injEq] at h
    subst h
    refine ⟨[.one (.d false false (.prod (.int .i64) (.int .i64)) L)], rfl, fun fr w us h => h, fun r hr => ?_⟩
    obtain ⟨hc, hr⟩ := br_bad hr
    simp only [Tr.val, Option.some.injEq] at hr
    subst hr
    rw [vac_tree]
    exact vac_val L hc
  · cases h
noncomputable def ruA_S55 : Sums := addS 12 vac_g ruA_S52
theorem ruA_S55_ok : SumOK Try.prog ruA_S55 := addS_ok (vac_ok) (ruA_S52_ok)
set_option maxRecDepth 100000 in
theorem vbc_tree (L : (Ty.list (.prod (.int .i64) (.int .i64))).den) : evalF Try.prog ruA_S55 (opens []) ruA_L54 9 13 [.one (.d false false (.prod (.int .i64) (.int .i64)) L)] = .br (((vb_cond L (false, (0 : Int))) && (bif Nat.beq (Prod.fst (vb_g L (false, (0 : Int)))) (0 : Nat) then true else (Nat.beq (Prod.fst (vb_g L (false, (0 : Int)))) (1 : Nat))))) (.ret (.one (.v false (.bool (bif Nat.beq (Prod.fst (vb_g L (false, (0 : Int)))) (0 : Nat) then Prod.fst (Prod.snd (vb_g L (false, (0 : Int)))) else true))))) (.bad 116) := by kernel_rfl
theorem vbc_val (L : (Ty.list (.prod (.int .i64) (.int .i64))).den) (hc : (decide (L.length ≤ 100000)) = true) : (.br (((vb_cond L (false, (0 : Int))) && (bif Nat.beq (Prod.fst (vb_g L (false, (0 : Int)))) (0 : Nat) then true else (Nat.beq (Prod.fst (vb_g L (false, (0 : Int)))) (1 : Nat))))) (.ret (.one (.v false (.bool (bif Nat.beq (Prod.fst (vb_g L (false, (0 : Int)))) (0 : Nat) then Prod.fst (Prod.snd (vb_g L (false, (0 : Int)))) else true))))) (.bad 116) : Tr AV).val = some (.one (.v false (.bool (valB L)))) := by
  have hn := of_decide_eq_true hc
  obtain ⟨v1, v2⟩ := vb_run hn
  show cond _ _ _ = _
  rcases v2 with ⟨h, g⟩ | ⟨h, j, g⟩
  · simp [v1, g, valB_t h, Nat.beq, Tr.val]
  · simp [v1, g, valB_f h, Nat.beq, Tr.val]
noncomputable def vbc_g : List AV → Option (Tr AV)
  | [.one (.d _ _ (.prod (.int .i64) (.int .i64)) L)] => some (.br (decide (L.length ≤ 100000)) (.ret (.one (.v false (.bool (valB L))))) (.bad 900))
  | _ => none
set_option maxHeartbeats 4000000 in
theorem vbc_ok : FunOK Try.prog 13 vbc_g := by
  refine fun_ok (by kernel_rfl) (ruA_S55_ok) (ruA_L54_ok) 9 (On := (opens [])) (fun args t h => ?_)
  unfold vbc_g at h
  split at h
  · rename_i _ _ L
    simp only [Option.some.injEq] at h
    subst h
    refine ⟨[.one (.d false false (.prod (.int .i64) (.int .i64)) L)], rfl, fun fr w us h => h, fun r hr => ?_⟩
    obtain ⟨hc, hr⟩ := br_bad hr
    simp only [Tr.val, Option.some.injEq] at hr
    subst hr
    rw [vbc_tree]
    exact vbc_val L hc
  · cases h
noncomputable def ruA_S56 : Sums := addS 13 vbc_g ruA_S55
theorem ruA_S56_ok : SumOK Try.prog ruA_S56 := addS_ok (vbc_ok) (ruA_S55_ok)
end Go.Proofs.Ytklagccjkbajiaa
