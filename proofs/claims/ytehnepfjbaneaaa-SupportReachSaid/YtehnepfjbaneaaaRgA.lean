/-
  Regions: validity of runs, rows, regions.
-/
import Derived.Test.YtehnepfjbaneaaaProg
import Derived.Test.YtehnepfjbaneaaaFvX
import Derived.Test.YtehnepfjbaneaaaFvZ
import Derived.Test.YtehnepfjbaneaaaAut
import Derived.Test.YtehnepfjbaneaaaRd
import Derived.Test.YtehnepfjbaneaaaPl
import Derived.Test.YtehnepfjbaneaaaScn
import Derived.Test.YtehnepfjbaneaaaRegM
namespace Go.Proofs.Ytehnepfjbaneaaa
open Go
abbrev va_U : Type := (Ty.list (.prod (.int .i64) (.int .i64))).den × (Ty.list (.prod (.int .i64) (.int .i64))).den × Int
abbrev va_V : Type := Bool × Int
noncomputable def va_St (u : va_U) (v : va_V) : Stt := ⟨[.one (.d false false (.prod (.int .i64) (.int .i64)) u.1), .one .junk, .one (.v false (.bool v.1)), .one .junk, .one .junk, .one (.d false false (.prod (.int .i64) (.int .i64)) u.2.1), .one (.v false (.int .i64 u.2.2)), .one (.v false (.int .i64 v.2)), .one .junk, .one .junk, .one .junk, .one .junk, .one .junk, .one .junk, .one .junk, .one .junk, .one .junk, .one .junk, .one .junk, .one .junk, .one .junk, .one .junk, .one .junk, .one .junk, .one .junk, .one .junk, .one .junk, .one .junk, .one .junk, .one .junk, .one .junk, .one .junk, .one .junk, .one .junk, .one .junk, .one .junk, .one .junk, .one .junk], [], 1004⟩
def el_ii (l : (Ty.list (Ty.prod (Ty.int IntKind.i64) (Ty.int IntKind.i64))).den) (i : Int) : (Int × Int) := elm (Ty.prod (Ty.int IntKind.i64) (Ty.int IntKind.i64)) l i
noncomputable def va_step (u : va_U) (v : va_V) : Tr (va_V ⊕ (Nat × va_V)) :=
  match u, v with
  | (q0, q2, q3), (q1, q4) => .br (decide (q4 < q3)) (.br (decide ((0 : Int) ≤ q4) && decide (q4 < (↑(List.length q2) : Int))) (.br ((bif bif decide (Prod.fst (el_ii q2 q4) ≥ Prod.snd (el_ii q2 q4)) then true else !bif decide (Prod.fst (el_ii q2 q4) ≥ (-1048576 : Int)) then decide (Prod.snd (el_ii q2 q4) ≤ (1048576 : Int)) else false then true else (bif decide (q4 > (0 : Int)) then (decide ((0 : Int) ≤ IntKind.wrap IntKind.i64 (q4 - (1 : Int))) && decide (IntKind.wrap IntKind.i64 (q4 - (1 : Int)) < (↑(List.length q0) : Int))) else true))) (.br (bif bif decide (Prod.fst (el_ii q2 q4) ≥ Prod.snd (el_ii q2 q4)) then true else !bif decide (Prod.fst (el_ii q2 q4) ≥ (-1048576 : Int)) then decide (Prod.snd (el_ii q2 q4) ≤ (1048576 : Int)) else false then true else bif decide (q4 > (0 : Int)) then decide (Prod.fst (el_ii q2 q4) ≤ Prod.snd (el_ii q0 (IntKind.wrap IntKind.i64 (q4 - (1 : Int))))) else false) (.ret (.inr (0, (false, q4)))) (.ret (.inl (q1, IntKind.wrap IntKind.i64 (q4 + (1 : Int)))))) (.bad 117)) (.bad 29)) (.ret (.inr (1, (q1, q4))))
set_option maxRecDepth 100000 in
set_option maxHeartbeats 4000000 in
theorem va_step_eq : ∀ (u : va_U) (v : va_V), (evalC Try.prog (evalB Try.prog S0 (opens []) L0 7).1 (evalB Try.prog S0 (opens []) L0 7).2 (opens []) (L0 44) 100000 (0 :: [0, 1, 0, 1]) (loopOf (bodyOf Try.prog 44) [1, 0, 1, 0]) (va_St u v) []).bind (finF [1, 3, 4, 8, 9, 10, 11, 12, 13, 14, 15, 16, 17, 18, 19, 20, 21, 22, 23, 24, 25, 26, 27, 28, 29, 30, 31, 32, 33, 34, 35, 36, 37] [] [] [] 1004) = (va_step u v).bind (outA (va_St u) [.ret, .exit 0]) := by
  rintro ⟨q0, q2, q3⟩ ⟨q1, q4⟩
  kernel_rfl
noncomputable def va_rd (b : Bool) (o0 : Option AV) (o2 : Option AV) (o5 : Option AV) (o6 : Option AV) (o7 : Option AV) (own : Own) : Option (va_U × va_V) := zrT b <| zrO o0 fun za1 => zrA1 za1 fun zc2 => zrD (.prod (.int .i64) (.int .i64)) zc2 fun q0 => zrO o2 fun za3 => zrA1 za3 fun zc4 => zrB zc4 fun q1 => zrO o5 fun za5 => zrA1 za5 fun zc6 => zrD (.prod (.int .i64) (.int .i64)) zc6 fun q2 => zrO o6 fun za7 => zrA1 za7 fun zc8 => zrI .i64 zc8 fun q3 => zrO o7 fun za9 => zrA1 za9 fun zc10 => zrI .i64 zc10 fun q4 => zrN own <| some ((q0, q2, q3), (q1, q4))
noncomputable def va_can (st : Stt) : Stt := canA [1, 3, 4, 8, 9, 10, 11, 12, 13, 14, 15, 16, 17, 18, 19, 20, 21, 22, 23, 24, 25, 26, 27, 28, 29, 30, 31, 32, 33, 34, 35, 36, 37] [] [] [] 1004 st
noncomputable def va_cok (st : Stt) : Bool := canAok [1, 3, 4, 8, 9, 10, 11, 12, 13, 14, 15, 16, 17, 18, 19, 20, 21, 22, 23, 24, 25, 26, 27, 28, 29, 30, 31, 32, 33, 34, 35, 36, 37] [] [] [] 1004 st
noncomputable def va_read (st : Stt) : Option (va_U × va_V) := va_rd (va_cok st && (staysA [] [] st.own && juAll [1, 3, 4, 8, 9, 10, 11, 12, 13, 14, 15, 16, 17, 18, 19, 20, 21, 22, 23, 24, 25, 26, 27, 28, 29, 30, 31, 32, 33, 34, 35, 36, 37] (va_can st).tm 38)) (va_can st).tm[0]? (va_can st).tm[2]? (va_can st).tm[5]? (va_can st).tm[6]? (va_can st).tm[7]? (va_can st).own
set_option maxRecDepth 100000 in
set_option maxHeartbeats 4000000 in
theorem va_rd_ok {b : Bool} {tm : List AV} {own : Own} {u : va_U} {v : va_V} (hj : b = true → juAll [1, 3, 4, 8, 9, 10, 11, 12, 13, 14, 15, 16, 17, 18, 19, 20, 21, 22, 23, 24, 25, 26, 27, 28, 29, 30, 31, 32, 33, 34, 35, 36, 37] tm 38 = true) (h : va_rd b tm[0]? tm[2]? tm[5]? tm[6]? tm[7]? own = some (u, v)) : b = true ∧ tm = (va_St u v).tm ∧ own = (va_St u v).own := by
  unfold va_rd at h
  obtain ⟨rfl, h0⟩ := zrT_some h
  obtain ⟨za1, e0, h1⟩ := zrO_some h0
  obtain ⟨zc2, rfl, h2⟩ := zrA1_some h1
  obtain ⟨q0, rfl, h3⟩ := zrD_some h2
  obtain ⟨za3, e2, h4⟩ := zrO_some h3
  obtain ⟨zc4, rfl, h5⟩ := zrA1_some h4
  obtain ⟨q1, rfl, h6⟩ := zrB_some h5
  obtain ⟨za5, e5, h7⟩ := zrO_some h6
  obtain ⟨zc6, rfl, h8⟩ := zrA1_some h7
  obtain ⟨q2, rfl, h9⟩ := zrD_some h8
  obtain ⟨za7, e6, h10⟩ := zrO_some h9
  obtain ⟨zc8, rfl, h11⟩ := zrA1_some h10
  obtain ⟨q3, rfl, h12⟩ := zrI_some h11
  obtain ⟨za9, e7, h13⟩ := zrO_some h12
  obtain ⟨zc10, rfl, h14⟩ := zrA1_some h13
  obtain ⟨q4, rfl, h15⟩ := zrI_some h14
  obtain ⟨rfl, h16⟩ := zrN_some h15
  have h := Option.some.inj h16
  have hu := congrArg Prod.fst h
  have hv := congrArg Prod.snd h
  dsimp only at hu hv
  subst hu
  subst hv
  exact ⟨rfl, (tm_fill (hj rfl) (Lv := [(0, .one (.d false false (.prod (.int .i64) (.int .i64)) q0)), (2, .one (.v false (.bool q1))), (5, .one (.d false false (.prod (.int .i64) (.int .i64)) q2)), (6, .one (.v false (.int .i64 q3))), (7, .one (.v false (.int .i64 q4)))]) (by kernel_rfl) ⟨e0, e2, e5, e6, e7, trivial⟩).trans (by kernel_rfl), rfl⟩
theorem va_read_ok (st : Stt) (u : va_U) (v : va_V) (h : va_read st = some (u, v)) : va_cok st = true ∧ staysA [] [] st.own = true ∧ va_can st = va_St u v := by
  obtain ⟨h1, h2, h3⟩ := va_rd_ok (fun hb => by rw [Bool.and_eq_true, Bool.and_eq_true] at hb; exact hb.2.2) h
  rw [Bool.and_eq_true, Bool.and_eq_true] at h1
  refine ⟨h1.1, h1.2.1, ?_⟩
  have e : va_can st = ⟨(va_can st).tm, (va_can st).own, 1004⟩ := by kernel_rfl
  rw [e, h2, h3]
  rfl
noncomputable def va_cond (u : va_U) (v : va_V) : Bool := runC (va_step u) v
noncomputable def va_g (u : va_U) (v : va_V) : Nat × va_V := runG (va_step u) v
theorem va_hg : ∀ (u : va_U) (v : va_V), va_cond u v = true → loopN (va_step u) ((fun u v => runF (va_step u) v) u v) v = some (va_g u v) := by
  exact fun u v h => run_hg h
noncomputable def va_m (st : Stt) : Option (Tr (Ex × Stt)) := sumM va_read va_cond va_St va_g [(0, .ret), (1, .exit 0)] st
noncomputable def rgA_L51 : FuncId → Loops := addL 44 [0, 1, 0, 1] va_m L0
set_option maxRecDepth 100000 in
set_option maxHeartbeats 4000000 in
theorem rgA_L51_ok : LoopsOK Try.prog rgA_L51 :=
  loop_sumF (body := (bodyOf Try.prog 44)) (c := (loopOf (bodyOf Try.prog 44) [1, 0, 1, 0])) (kinds := [.ret, .exit 0]) (allow := [(0, .ret), (1, .exit 0)]) (St := va_St) (step := va_step) (W := [1, 3, 4, 8, 9, 10, 11, 12, 13, 14, 15, 16, 17, 18, 19, 20, 21, 22, 23, 24, 25, 26, 27, 28, 29, 30, 31, 32, 33, 34, 35, 36, 37]) (As := []) (ks := []) (dd := []) (nx := 1004) (n := 100000) (g := va_g) (cond := va_cond) (fuel := (fun u v => runF (va_step u) v)) (read := va_read) (by kernel_rfl) (S0_ok _) (L0_ok _) 7 ⟨Try.f44, by kernel_rfl, by kernel_rfl⟩ (by kernel_rfl) (by kernel_rfl) (by kernel_rfl) va_step_eq va_hg va_read_ok
abbrev fi_U : Type := (Ty.list (.prod (.int .i64) (.int .i64))).den
abbrev fi_V : Type := Bool × Int
noncomputable def fi_St (u : fi_U) (v : fi_V) : Stt := ⟨[.one (.d false false (.prod (.int .i64) (.int .i64)) u), .one .junk, .one (.v false (.bool v.1)), .one (.v false (.int .i64 v.2)), .one .junk, .one .junk, .one .junk, .one .junk, .one .junk, .one .junk, .one .junk, .one .junk, .one .junk, .one .junk, .one .junk, .one .junk, .one .junk, .one .junk, .one .junk, .one .junk, .one .junk, .one .junk, .one .junk, .one .junk, .one .junk, .one .junk, .one .junk, .one .junk, .one .junk, .one .junk, .one .junk, .one .junk, .one .junk, .one .junk, .one .junk, .one .junk, .one .junk, .one .junk, .one .junk, .one .junk, .one .junk, .one .junk, .one .junk, .one .junk, .one .junk, .one .junk, .one .junk, .one .junk, .one .junk, .one .junk, .one .junk, .one .junk, .one .junk, .one .junk, .one .junk, .one .junk, .one .junk, .one .junk], [], 1002⟩
noncomputable def fi_step (u : fi_U) (v : fi_V) : Tr (fi_V ⊕ (Nat × fi_V)) :=
  match u, v with
  | q0, (q1, q2) => .br (decide (q2 < (↑(List.length q0) : Int))) (.br (decide ((0 : Int) ≤ q2) && decide (q2 < (↑(List.length q0) : Int))) (.br ((bif decide (Prod.fst (el_ii q0 q2) < (-4096 : Int)) then true else ((decide ((0 : Int) ≤ q2) && decide (q2 < (↑(List.length q0) : Int))) && (decide ((0 : Int) ≤ q2) && decide (q2 < (↑(List.length q0) : Int)))))) (.br ((bif bif decide (Prod.fst (el_ii q0 q2) < (-4096 : Int)) then true else decide (Prod.fst (el_ii q0 q2) ≥ Prod.snd (el_ii q0 q2)) then true else (decide ((0 : Int) ≤ q2) && decide (q2 < (↑(List.length q0) : Int))))) (.br ((bif bif bif decide (Prod.fst (el_ii q0 q2) < (-4096 : Int)) then true else decide (Prod.fst (el_ii q0 q2) ≥ Prod.snd (el_ii q0 q2)) then true else decide (Prod.snd (el_ii q0 q2) > (4096 : Int)) then true else (bif decide (q2 > (0 : Int)) then ((decide ((0 : Int) ≤ q2) && decide (q2 < (↑(List.length q0) : Int))) && (decide ((0 : Int) ≤ IntKind.wrap IntKind.i64 (q2 - (1 : Int))) && decide (IntKind.wrap IntKind.i64 (q2 - (1 : Int)) < (↑(List.length q0) : Int)))) else true))) (.br (bif bif bif decide (Prod.fst (el_ii q0 q2) < (-4096 : Int)) then true else decide (Prod.fst (el_ii q0 q2) ≥ Prod.snd (el_ii q0 q2)) then true else decide (Prod.snd (el_ii q0 q2) > (4096 : Int)) then true else bif decide (q2 > (0 : Int)) then decide (Prod.fst (el_ii q0 q2) ≤ Prod.snd (el_ii q0 (IntKind.wrap IntKind.i64 (q2 - (1 : Int))))) else false) (.ret (.inr (0, (false, q2)))) (.ret (.inl (q1, IntKind.wrap IntKind.i64 (q2 + (1 : Int)))))) (.bad 117)) (.bad 117)) (.bad 117)) (.bad 29)) (.ret (.inr (1, (q1, q2))))
set_option maxRecDepth 100000 in
set_option maxHeartbeats 4000000 in
theorem fi_step_eq : ∀ (u : fi_U) (v : fi_V), (evalC Try.prog (evalB Try.prog S0 (opens []) rgA_L51 7).1 (evalB Try.prog S0 (opens []) rgA_L51 7).2 (opens []) (rgA_L51 53) 100000 (0 :: [0, 1, 0, 1]) (loopOf (bodyOf Try.prog 53) [1, 0, 1, 0]) (fi_St u v) []).bind (finF [1, 4, 5, 6, 7, 8, 9, 10, 11, 12, 13, 14, 15, 16, 17, 18, 19, 20, 21, 22, 23, 24, 25, 26, 27, 28, 29, 30, 31, 32, 33, 34, 35, 36, 37, 38, 39, 40, 41, 42, 43, 44, 45, 46, 47, 48, 49, 50, 51, 52, 53, 54, 55, 56, 57] [] [] [] 1002) = (fi_step u v).bind (outA (fi_St u) [.ret, .exit 0]) := by
  rintro q0 ⟨q1, q2⟩
  kernel_rfl
noncomputable def fi_rd (b : Bool) (o0 : Option AV) (o2 : Option AV) (o3 : Option AV) (own : Own) : Option (fi_U × fi_V) := zrT b <| zrO o0 fun za1 => zrA1 za1 fun zc2 => zrD (.prod (.int .i64) (.int .i64)) zc2 fun q0 => zrO o2 fun za3 => zrA1 za3 fun zc4 => zrB zc4 fun q1 => zrO o3 fun za5 => zrA1 za5 fun zc6 => zrI .i64 zc6 fun q2 => zrN own <| some (q0, (q1, q2))
noncomputable def fi_can (st : Stt) : Stt := canA [1, 4, 5, 6, 7, 8, 9, 10, 11, 12, 13, 14, 15, 16, 17, 18, 19, 20, 21, 22, 23, 24, 25, 26, 27, 28, 29, 30, 31, 32, 33, 34, 35, 36, 37, 38, 39, 40, 41, 42, 43, 44, 45, 46, 47, 48, 49, 50, 51, 52, 53, 54, 55, 56, 57] [] [] [] 1002 st
noncomputable def fi_cok (st : Stt) : Bool := canAok [1, 4, 5, 6, 7, 8, 9, 10, 11, 12, 13, 14, 15, 16, 17, 18, 19, 20, 21, 22, 23, 24, 25, 26, 27, 28, 29, 30, 31, 32, 33, 34, 35, 36, 37, 38, 39, 40, 41, 42, 43, 44, 45, 46, 47, 48, 49, 50, 51, 52, 53, 54, 55, 56, 57] [] [] [] 1002 st
noncomputable def fi_read (st : Stt) : Option (fi_U × fi_V) := fi_rd (fi_cok st && (staysA [] [] st.own && juAll [1, 4, 5, 6, 7, 8, 9, 10, 11, 12, 13, 14, 15, 16, 17, 18, 19, 20, 21, 22, 23, 24, 25, 26, 27, 28, 29, 30, 31, 32, 33, 34, 35, 36, 37, 38, 39, 40, 41, 42, 43, 44, 45, 46, 47, 48, 49, 50, 51, 52, 53, 54, 55, 56, 57] (fi_can st).tm 58)) (fi_can st).tm[0]? (fi_can st).tm[2]? (fi_can st).tm[3]? (fi_can st).own
set_option maxRecDepth 100000 in
set_option maxHeartbeats 4000000 in
theorem fi_rd_ok {b : Bool} {tm : List AV} {own : Own} {u : fi_U} {v : fi_V} (hj : b = true → juAll [1, 4, 5, 6, 7, 8, 9, 10, 11, 12, 13, 14, 15, 16, 17, 18, 19, 20, 21, 22, 23, 24, 25, 26, 27, 28, 29, 30, 31, 32, 33, 34, 35, 36, 37, 38, 39, 40, 41, 42, 43, 44, 45, 46, 47, 48, 49, 50, 51, 52, 53, 54, 55, 56, 57] tm 58 = true) (h : fi_rd b tm[0]? tm[2]? tm[3]? own = some (u, v)) : b = true ∧ tm = (fi_St u v).tm ∧ own = (fi_St u v).own := by
  unfold fi_rd at h
  obtain ⟨rfl, h0⟩ := zrT_some h
  obtain ⟨za1, e0, h1⟩ := zrO_some h0
  obtain ⟨zc2, rfl, h2⟩ := zrA1_some h1
  obtain ⟨q0, rfl, h3⟩ := zrD_some h2
  obtain ⟨za3, e2, h4⟩ := zrO_some h3
  obtain ⟨zc4, rfl, h5⟩ := zrA1_some h4
  obtain ⟨q1, rfl, h6⟩ := zrB_some h5
  obtain ⟨za5, e3, h7⟩ := zrO_some h6
  obtain ⟨zc6, rfl, h8⟩ := zrA1_some h7
  obtain ⟨q2, rfl, h9⟩ := zrI_some h8
  obtain ⟨rfl, h10⟩ := zrN_some h9
  have h := Option.some.inj h10
  have hu := congrArg Prod.fst h
  have hv := congrArg Prod.snd h
  dsimp only at hu hv
  subst hu
  subst hv
  exact ⟨rfl, (tm_fill (hj rfl) (Lv := [(0, .one (.d false false (.prod (.int .i64) (.int .i64)) q0)), (2, .one (.v false (.bool q1))), (3, .one (.v false (.int .i64 q2)))]) (by kernel_rfl) ⟨e0, e2, e3, trivial⟩).trans (by kernel_rfl), rfl⟩
theorem fi_read_ok (st : Stt) (u : fi_U) (v : fi_V) (h : fi_read st = some (u, v)) : fi_cok st = true ∧ staysA [] [] st.own = true ∧ fi_can st = fi_St u v := by
  obtain ⟨h1, h2, h3⟩ := fi_rd_ok (fun hb => by rw [Bool.and_eq_true, Bool.and_eq_true] at hb; exact hb.2.2) h
  rw [Bool.and_eq_true, Bool.and_eq_true] at h1
  refine ⟨h1.1, h1.2.1, ?_⟩
  have e : fi_can st = ⟨(fi_can st).tm, (fi_can st).own, 1002⟩ := by kernel_rfl
  rw [e, h2, h3]
  rfl
noncomputable def fi_cond (u : fi_U) (v : fi_V) : Bool := runC (fi_step u) v
noncomputable def fi_g (u : fi_U) (v : fi_V) : Nat × fi_V := runG (fi_step u) v
theorem fi_hg : ∀ (u : fi_U) (v : fi_V), fi_cond u v = true → loopN (fi_step u) ((fun u v => runF (fi_step u) v) u v) v = some (fi_g u v) := by
  exact fun u v h => run_hg h
noncomputable def fi_m (st : Stt) : Option (Tr (Ex × Stt)) := sumM fi_read fi_cond fi_St fi_g [(0, .ret), (1, .exit 0)] st
noncomputable def rgA_L52 : FuncId → Loops := addL 53 [0, 1, 0, 1] fi_m rgA_L51
set_option maxRecDepth 100000 in
set_option maxHeartbeats 4000000 in
theorem rgA_L52_ok : LoopsOK Try.prog rgA_L52 :=
  loop_sumF (body := (bodyOf Try.prog 53)) (c := (loopOf (bodyOf Try.prog 53) [1, 0, 1, 0])) (kinds := [.ret, .exit 0]) (allow := [(0, .ret), (1, .exit 0)]) (St := fi_St) (step := fi_step) (W := [1, 4, 5, 6, 7, 8, 9, 10, 11, 12, 13, 14, 15, 16, 17, 18, 19, 20, 21, 22, 23, 24, 25, 26, 27, 28, 29, 30, 31, 32, 33, 34, 35, 36, 37, 38, 39, 40, 41, 42, 43, 44, 45, 46, 47, 48, 49, 50, 51, 52, 53, 54, 55, 56, 57]) (As := []) (ks := []) (dd := []) (nx := 1002) (n := 100000) (g := fi_g) (cond := fi_cond) (fuel := (fun u v => runF (fi_step u) v)) (read := fi_read) (by kernel_rfl) (S0_ok _) (rgA_L51_ok) 7 ⟨Try.f53, by kernel_rfl, by kernel_rfl⟩ (by kernel_rfl) (by kernel_rfl) (by kernel_rfl) fi_step_eq fi_hg fi_read_ok
abbrev lna_U : Type := Int × (Ty.list (.prod (.int .i64) (.int .i64))).den × Int
abbrev lna_V : Type := Int × Int
noncomputable def lna_St (u : lna_U) (v : lna_V) : Stt := ⟨[.one .junk, .one .junk, .one (.v false (.int .i64 u.1)), .one (.v false (.int .i64 v.1)), .one .junk, .one .junk, .one .junk, .one .junk, .one .junk, .one (.d false false (.prod (.int .i64) (.int .i64)) u.2.1), .one (.v false (.int .i64 u.2.2)), .one (.v false (.int .i64 v.2)), .one .junk, .one .junk, .one .junk, .one .junk, .one .junk, .one .junk, .one .junk, .one .junk, .one .junk, .one .junk, .one .junk, .one .junk], [], 1008⟩
noncomputable def lna_step (u : lna_U) (v : lna_V) : Tr (lna_V ⊕ (Nat × lna_V)) :=
  match u, v with
  | (_, q2, q3), (q1, q4) => .br (decide (q4 < q3)) (.br (decide ((0 : Int) ≤ q4) && decide (q4 < (↑(List.length q2) : Int))) (.ret (.inl (IntKind.wrap IntKind.i64 (q1 + IntKind.wrap IntKind.i64 (Prod.snd (el_ii q2 q4) - Prod.fst (el_ii q2 q4))), IntKind.wrap IntKind.i64 (q4 + (1 : Int))))) (.bad 29)) (.ret (.inr (0, (q1, q4))))
set_option maxRecDepth 100000 in
set_option maxHeartbeats 4000000 in
theorem lna_step_eq : ∀ (u : lna_U) (v : lna_V), (evalC Try.prog (evalB Try.prog S0 (opens []) rgA_L52 7).1 (evalB Try.prog S0 (opens []) rgA_L52 7).2 (opens []) (rgA_L52 29) 100000 (0 :: [0, 1, 0, 1, 1, 1]) (loopOf (bodyOf Try.prog 29) [1, 1, 1, 0, 1, 0]) (lna_St u v) []).bind (finF [0, 1, 4, 5, 6, 7, 8, 12, 13, 14, 15, 16, 17, 18, 19, 20, 21, 22, 23] [] [] [] 1008) = (lna_step u v).bind (outA (lna_St u) [.exit 0]) := by
  rintro ⟨q0, q2, q3⟩ ⟨q1, q4⟩
  kernel_rfl
noncomputable def lna_rd (b : Bool) (o2 : Option AV) (o3 : Option AV) (o9 : Option AV) (o10 : Option AV) (o11 : Option AV) (own : Own) : Option (lna_U × lna_V) := zrT b <| zrO o2 fun za1 => zrA1 za1 fun zc2 => zrI .i64 zc2 fun q0 => zrO o3 fun za3 => zrA1 za3 fun zc4 => zrI .i64 zc4 fun q1 => zrO o9 fun za5 => zrA1 za5 fun zc6 => zrD (.prod (.int .i64) (.int .i64)) zc6 fun q2 => zrO o10 fun za7 => zrA1 za7 fun zc8 => zrI .i64 zc8 fun q3 => zrO o11 fun za9 => zrA1 za9 fun zc10 => zrI .i64 zc10 fun q4 => zrN own <| some ((q0, q2, q3), (q1, q4))
noncomputable def lna_can (st : Stt) : Stt := canA [0, 1, 4, 5, 6, 7, 8, 12, 13, 14, 15, 16, 17, 18, 19, 20, 21, 22, 23] [] [] [] 1008 st
noncomputable def lna_cok (st : Stt) : Bool := canAok [0, 1, 4, 5, 6, 7, 8, 12, 13, 14, 15, 16, 17, 18, 19, 20, 21, 22, 23] [] [] [] 1008 st
noncomputable def lna_read (st : Stt) : Option (lna_U × lna_V) := lna_rd (lna_cok st && (staysA [] [] st.own && juAll [0, 1, 4, 5, 6, 7, 8, 12, 13, 14, 15, 16, 17, 18, 19, 20, 21, 22, 23] (lna_can st).tm 24)) (lna_can st).tm[2]? (lna_can st).tm[3]? (lna_can st).tm[9]? (lna_can st).tm[10]? (lna_can st).tm[11]? (lna_can st).own
set_option maxRecDepth 100000 in
set_option maxHeartbeats 4000000 in
theorem lna_rd_ok {b : Bool} {tm : List AV} {own : Own} {u : lna_U} {v : lna_V} (hj : b = true → juAll [0, 1, 4, 5, 6, 7, 8, 12, 13, 14, 15, 16, 17, 18, 19, 20, 21, 22, 23] tm 24 = true) (h : lna_rd b tm[2]? tm[3]? tm[9]? tm[10]? tm[11]? own = some (u, v)) : b = true ∧ tm = (lna_St u v).tm ∧ own = (lna_St u v).own := by
  unfold lna_rd at h
  obtain ⟨rfl, h0⟩ := zrT_some h
  obtain ⟨za1, e2, h1⟩ := zrO_some h0
  obtain ⟨zc2, rfl, h2⟩ := zrA1_some h1
  obtain ⟨q0, rfl, h3⟩ := zrI_some h2
  obtain ⟨za3, e3, h4⟩ := zrO_some h3
  obtain ⟨zc4, rfl, h5⟩ := zrA1_some h4
  obtain ⟨q1, rfl, h6⟩ := zrI_some h5
  obtain ⟨za5, e9, h7⟩ := zrO_some h6
  obtain ⟨zc6, rfl, h8⟩ := zrA1_some h7
  obtain ⟨q2, rfl, h9⟩ := zrD_some h8
  obtain ⟨za7, e10, h10⟩ := zrO_some h9
  obtain ⟨zc8, rfl, h11⟩ := zrA1_some h10
  obtain ⟨q3, rfl, h12⟩ := zrI_some h11
  obtain ⟨za9, e11, h13⟩ := zrO_some h12
  obtain ⟨zc10, rfl, h14⟩ := zrA1_some h13
  obtain ⟨q4, rfl, h15⟩ := zrI_some h14
  obtain ⟨rfl, h16⟩ := zrN_some h15
  have h := Option.some.inj h16
  have hu := congrArg Prod.fst h
  have hv := congrArg Prod.snd h
  dsimp only at hu hv
  subst hu
  subst hv
  exact ⟨rfl, (tm_fill (hj rfl) (Lv := [(2, .one (.v false (.int .i64 q0))), (3, .one (.v false (.int .i64 q1))), (9, .one (.d false false (.prod (.int .i64) (.int .i64)) q2)), (10, .one (.v false (.int .i64 q3))), (11, .one (.v false (.int .i64 q4)))]) (by kernel_rfl) ⟨e2, e3, e9, e10, e11, trivial⟩).trans (by kernel_rfl), rfl⟩
theorem lna_read_ok (st : Stt) (u : lna_U) (v : lna_V) (h : lna_read st = some (u, v)) : lna_cok st = true ∧ staysA [] [] st.own = true ∧ lna_can st = lna_St u v := by
  obtain ⟨h1, h2, h3⟩ := lna_rd_ok (fun hb => by rw [Bool.and_eq_true, Bool.and_eq_true] at hb; exact hb.2.2) h
  rw [Bool.and_eq_true, Bool.and_eq_true] at h1
  refine ⟨h1.1, h1.2.1, ?_⟩
  have e : lna_can st = ⟨(lna_can st).tm, (lna_can st).own, 1008⟩ := by kernel_rfl
  rw [e, h2, h3]
  rfl
noncomputable def lna_cond (u : lna_U) (v : lna_V) : Bool := runC (lna_step u) v
noncomputable def lna_g (u : lna_U) (v : lna_V) : Nat × lna_V := runG (lna_step u) v
theorem lna_hg : ∀ (u : lna_U) (v : lna_V), lna_cond u v = true → loopN (lna_step u) ((fun u v => runF (lna_step u) v) u v) v = some (lna_g u v) := by
  exact fun u v h => run_hg h
noncomputable def lna_m (st : Stt) : Option (Tr (Ex × Stt)) := sumM lna_read lna_cond lna_St lna_g [(0, .exit 0)] st
noncomputable def rgA_L53 : FuncId → Loops := addL 29 [0, 1, 0, 1, 1, 1] lna_m rgA_L52
set_option maxRecDepth 100000 in
set_option maxHeartbeats 4000000 in
theorem rgA_L53_ok : LoopsOK Try.prog rgA_L53 :=
  loop_sumF (body := (bodyOf Try.prog 29)) (c := (loopOf (bodyOf Try.prog 29) [1, 1, 1, 0, 1, 0])) (kinds := [.exit 0]) (allow := [(0, .exit 0)]) (St := lna_St) (step := lna_step) (W := [0, 1, 4, 5, 6, 7, 8, 12, 13, 14, 15, 16, 17, 18, 19, 20, 21, 22, 23]) (As := []) (ks := []) (dd := []) (nx := 1008) (n := 100000) (g := lna_g) (cond := lna_cond) (fuel := (fun u v => runF (lna_step u) v)) (read := lna_read) (by kernel_rfl) (S0_ok _) (rgA_L52_ok) 7 ⟨Try.f29, by kernel_rfl, by kernel_rfl⟩ (by kernel_rfl) (by kernel_rfl) (by kernel_rfl) lna_step_eq lna_hg lna_read_ok
noncomputable def lenV (L : Rl) : Int := bif valB L then lenR L else 0
theorem el_r {L : Rl} {i : Nat} (h : i < L.length) : el_ii L (i : Int) = L[i] := elm_lt (t := .prod (.int .i64) (.int .i64)) h
def bdA (L : Rl) (i : Nat) : Bool := bif bif decide (Prod.fst (el_ii L (i : Int)) ≥ Prod.snd (el_ii L (i : Int))) then true else !bif decide (Prod.fst (el_ii L (i : Int)) ≥ (-1048576 : Int)) then decide (Prod.snd (el_ii L (i : Int)) ≤ (1048576 : Int)) else false then true else bif decide ((i : Int) > (0 : Int)) then decide (Prod.fst (el_ii L (i : Int)) ≤ Prod.snd (el_ii L (IntKind.wrap IntKind.i64 ((i : Int) - (1 : Int))))) else false
def bdB (L : Rl) (i : Nat) : Bool := bif bif bif decide (Prod.fst (el_ii L (i : Int)) ≥ Prod.snd (el_ii L (i : Int))) then true else !bif decide (Prod.fst (el_ii L (i : Int)) ≥ (-1048576 : Int)) then decide (Prod.fst (el_ii L (i : Int)) ≤ (1048576 : Int)) else false then true else !bif decide (Prod.snd (el_ii L (i : Int)) ≥ (-1048576 : Int)) then decide (Prod.snd (el_ii L (i : Int)) ≤ (1048576 : Int)) else false then true else bif decide ((i : Int) > (0 : Int)) then decide (Prod.fst (el_ii L (i : Int)) ≤ Prod.snd (el_ii L (IntKind.wrap IntKind.i64 ((i : Int) - (1 : Int))))) else false
theorem pre_in {L : Rl} {i : Nat} (h : i < L.length) (hn : (L.length : Int) ≤ 9223372036854775807) : (bif decide ((i : Int) > (0 : Int)) then (decide ((0 : Int) ≤ IntKind.wrap IntKind.i64 ((i : Int) - (1 : Int))) && decide (IntKind.wrap IntKind.i64 ((i : Int) - (1 : Int)) < (L.length : Int))) else true) = true ∧ (0 < i → el_ii L (IntKind.wrap IntKind.i64 ((i : Int) - (1 : Int))) = L[i - 1]) := by
  cases i with
  | zero => exact ⟨rfl, fun h => absurd h (Nat.lt_irrefl _)⟩
  | succ i =>
    have e : IntKind.wrap IntKind.i64 (((i + 1 : Nat) : Int) - (1 : Int)) = (i : Int) := by rw [wid (by omega) (by omega)]; omega
    rw [e]
    refine ⟨?_, fun _ => el_r (by omega)⟩
    rw [decide_eq_true (show ((i + 1 : Nat) : Int) > 0 by omega), decide_eq_true (show (0 : Int) ≤ (i : Int) by omega), decide_eq_true (show (i : Int) < (L.length : Int) by omega)]
    rfl
theorem bd_iff (f : Rl → Nat → Bool) (hf : f = bdA ∨ f = bdB) {L : Rl} (hn : (L.length : Int) ≤ 9223372036854775807) : (∀ i, i < L.length → (!f L i) = true) ↔ valR L := by
  rw [valR_good]
  have one : ∀ i (h : i < L.length), (!f L i) = true ↔ good (-1048577) L i h := fun i h => by
    have e := el_r h
    unfold good
    by_cases h0 : 0 < i
    · have e2 := (pre_in h hn).2 h0
      have d : decide ((i : Int) > (0 : Int)) = true := decide_eq_true (by omega)
      rcases hf with rfl | rfl
      · unfold bdA
        rw [e, e2, d]
        simp [Bool.cond_eq_ite]
        constructor
        · intro h; exact ⟨by omega, by omega, by omega, fun _ => by omega⟩
        · intro ⟨a, b, c, d⟩; have := d h0; omega
      · unfold bdB
        rw [e, e2, d]
        simp [Bool.cond_eq_ite]
        constructor
        · intro h; exact ⟨by omega, by omega, by omega, fun _ => by omega⟩
        · intro ⟨a, b, c, d⟩; have := d h0; omega
    · have d : decide ((i : Int) > (0 : Int)) = false := decide_eq_false (by omega)
      rcases hf with rfl | rfl
      · unfold bdA
        rw [e, d]
        simp [Bool.cond_eq_ite]
        first
          | (intro h1; exact ⟨fun h => ⟨by omega, by omega, fun g => absurd g h0⟩, fun ⟨a, b, c⟩ => by omega⟩)
          | (constructor
             · intro h; exact ⟨by omega, by omega, by omega, fun g => absurd g h0⟩
             · intro ⟨a, b, c, d⟩; omega)
      · unfold bdB
        rw [e, d]
        simp [Bool.cond_eq_ite]
        first
          | (intro h1; exact ⟨fun h => ⟨by omega, by omega, fun g => absurd g h0⟩, fun ⟨a, b, c⟩ => by omega⟩)
          | (constructor
             · intro h; exact ⟨by omega, by omega, by omega, fun g => absurd g h0⟩
             · intro ⟨a, b, c, d⟩; omega)
  exact ⟨fun h i hi => (one i hi).1 (h i hi), fun h i hi => (one i hi).2 (h i hi)⟩
theorem va_run {L : Rl} (hn : (L.length : Int) ≤ 9223372036854775807) : va_cond (L, L, (L.length : Int)) (false, 0) = true ∧ ((valR L ∧ va_g (L, L, (L.length : Int)) (false, 0) = (1, (false, (L.length : Int)))) ∨ (¬ valR L ∧ ∃ j : Nat, va_g (L, L, (L.length : Int)) (false, 0) = (0, (false, (j : Int))))) := by
  obtain ⟨h1, h2⟩ := run_scan (step := va_step (L, L, (L.length : Int))) (St := fun i => (false, (i : Int))) (Lv := fun i => (0, (false, (i : Int)))) (t := (1, (false, (L.length : Int)))) (n := L.length) (p := fun i => !bdA L i) (fun i hi => by
    have c5 := (pre_in hi hn).1
    simp only [va_step, Tr.val, lt_t hi, nn_t, c5, wi2 hi (show (L.length : Int) ≤ 9223372036854775807 by omega), Bool.and_self, Bool.cond_self, cond_true]
    unfold bdA
    generalize (bif bif decide (Prod.fst (el_ii L (i : Int)) ≥ Prod.snd (el_ii L (i : Int))) then true else _ then true else _ : Bool) = b
    cases b <;> rfl) (by simp only [va_step, Tr.val, Int.lt_irrefl, decide_false, cond_false])
  refine ⟨h1, ?_⟩
  rcases h2 with ⟨h, h3⟩ | ⟨j, hj, hp, _, h4⟩
  · exact .inl ⟨(bd_iff bdA (.inl rfl) hn).1 h, h3⟩
  · refine .inr ⟨fun hv => ?_, j, h4⟩
    have := (bd_iff bdA (.inl rfl) hn).2 hv j hj
    rw [this] at hp; cases hp
theorem valB_t {L : Rl} (h : valR L) : valB L = true := valB_iff.2 h
theorem valB_f {L : Rl} (h : ¬ valR L) : valB L = false := by rw [← Bool.not_eq_true]; exact fun e => h (valB_iff.1 e)
def bdF (L : Rl) (i : Nat) : Bool := bif bif bif decide (Prod.fst (el_ii L (i : Int)) < (-4096 : Int)) then true else decide (Prod.fst (el_ii L (i : Int)) ≥ Prod.snd (el_ii L (i : Int))) then true else decide (Prod.snd (el_ii L (i : Int)) > (4096 : Int)) then true else bif decide ((i : Int) > (0 : Int)) then decide (Prod.fst (el_ii L (i : Int)) ≤ Prod.snd (el_ii L (IntKind.wrap IntKind.i64 ((i : Int) - (1 : Int))))) else false
theorem bdF_iff {L : Rl} (hn : (L.length : Int) ≤ 9223372036854775807) : (∀ i, i < L.length → (!bdF L i) = true) ↔ (Nr (-4097) L ∧ endR (-4097) L ≤ 4096) := by
  rw [fine_good]
  have one : ∀ i (h : i < L.length), (!bdF L i) = true ↔ (good (-4097) L i h ∧ L[i].2 ≤ 4096) := fun i h => by
    have e := el_r h
    unfold good bdF
    by_cases h0 : 0 < i
    · have e2 := (pre_in h hn).2 h0
      have d : decide ((i : Int) > (0 : Int)) = true := decide_eq_true (by omega)
      rw [e, e2, d]
      simp [Bool.cond_eq_ite]
      constructor
      · intro h; exact ⟨⟨by omega, by omega, by omega, fun _ => by omega⟩, by omega⟩
      · intro ⟨⟨a, b, c, d⟩, f⟩; have := d h0; omega
    · have d : decide ((i : Int) > (0 : Int)) = false := decide_eq_false (by omega)
      rw [e, d]
      simp [Bool.cond_eq_ite]
      intro h5
      constructor
      · intro h; exact ⟨by omega, by omega, by omega, fun g => absurd g h0⟩
      · intro ⟨a, b, c, d⟩; omega
  exact ⟨fun h i hi => (one i hi).1 (h i hi), fun h i hi => (one i hi).2 (h i hi)⟩
theorem fi_run {L : Rl} (hn : (L.length : Int) ≤ 9223372036854775807) : fi_cond L (false, 0) = true ∧ (((Nr (-4097) L ∧ endR (-4097) L ≤ 4096) ∧ fi_g L (false, 0) = (1, (false, (L.length : Int)))) ∨ (fineB L = false ∧ ∃ j : Nat, fi_g L (false, 0) = (0, (false, (j : Int))))) := by
  obtain ⟨h1, h2⟩ := run_scan (step := fi_step L) (St := fun i => (false, (i : Int))) (Lv := fun i => (0, (false, (i : Int)))) (t := (1, (false, (L.length : Int)))) (n := L.length) (p := fun i => !bdF L i) (fun i hi => by
    have c5 := (pre_in hi hn).1
    simp only [fi_step, Tr.val, lt_t hi, nn_t, c5, wi2 hi (show (L.length : Int) ≤ 9223372036854775807 by omega), Bool.and_self, Bool.true_and, Bool.cond_self, cond_true]
    unfold bdF
    generalize (bif bif bif decide (Prod.fst (el_ii L (i : Int)) < (-4096 : Int)) then true else _ then true else _ then true else _ : Bool) = b
    cases b <;> rfl) (by simp only [fi_step, Tr.val, Int.lt_irrefl, decide_false, cond_false])
  refine ⟨h1, ?_⟩
  rcases h2 with ⟨h, h3⟩ | ⟨j, hj, hp, _, h4⟩
  · exact .inl ⟨(bdF_iff hn).1 h, h3⟩
  · refine .inr ⟨?_, j, h4⟩
    rw [← Bool.not_eq_true, fineB_iff]
    rintro ⟨_, hv⟩
    have := (bdF_iff hn).2 hv j hj
    rw [this] at hp; cases hp
theorem fine_len {L : Rl} (h : Nr (-4097) L ∧ endR (-4097) L ≤ 4096) : decide ((L.length : Int) > (0 : Int)) = fineB L := by
  rw [Bool.eq_iff_iff, fineB_iff, decide_eq_true_eq]
  unfold fineR
  constructor
  · intro g; exact ⟨fun e => by subst e; simp at g, h⟩
  · intro g
    have : L.length ≠ 0 := fun e => g.1 (List.length_eq_zero_iff.1 e)
    omega
theorem lna_run {L : Rl} (h : valR L) (hn : L.length ≤ 100000) : lna_cond (0, L, (L.length : Int)) (0, 0) = true ∧ lna_g (0, L, (L.length : Int)) (0, 0) = (0, (lenR L, (L.length : Int))) := by
  have R := run_steps (step := lna_step (0, L, (L.length : Int))) (St := fun j => (lenR (L.take j), (j : Int))) (n := L.length) (t := (0, (lenR L, (L.length : Int)))) (by
    simp only [lna_step, Tr.val, Int.lt_irrefl, decide_false, cond_false, List.take_length]) L.length 0 (Nat.zero_add _) (fun j _ hj => by
    have g := good_in h hj
    have b := lenR_bd h j (by omega)
    have w2 : IntKind.wrap IntKind.i64 (L[j].2 - L[j].1) = L[j].2 - L[j].1 := wid (by omega) (by omega)
    have w3 : IntKind.wrap IntKind.i64 (lenR (L.take j) + (L[j].2 - L[j].1)) = lenR (L.take j) + (L[j].2 - L[j].1) := wid (by omega) (by omega)
    rw [lenR_take hj]
    simp only [lna_step, Tr.val, lt_t hj, nn_t, el_r hj, w2, w3, wi1 hj (show (L.length : Int) ≤ 9223372036854775806 by omega), Bool.and_self, cond_true])
  exact R
set_option maxRecDepth 100000 in
theorem vac_tree (L : (Ty.list (.prod (.int .i64) (.int .i64))).den) : evalF Try.prog S0 (opens []) rgA_L53 9 44 [.one (.d false false (.prod (.int .i64) (.int .i64)) L)] = .br (((va_cond (L, L, (↑(List.length L) : Int)) (false, (0 : Int))) && (bif Nat.beq (Prod.fst (va_g (L, L, (↑(List.length L) : Int)) (false, (0 : Int)))) (0 : Nat) then true else (Nat.beq (Prod.fst (va_g (L, L, (↑(List.length L) : Int)) (false, (0 : Int)))) (1 : Nat))))) (.ret (.one (.v false (.bool (bif Nat.beq (Prod.fst (va_g (L, L, (↑(List.length L) : Int)) (false, (0 : Int)))) (0 : Nat) then Prod.fst (Prod.snd (va_g (L, L, (↑(List.length L) : Int)) (false, (0 : Int)))) else true))))) (.bad 116) := by kernel_rfl
theorem vac_val (L : (Ty.list (.prod (.int .i64) (.int .i64))).den) (hc : (decide ((L.length : Int) ≤ 9223372036854775807)) = true) : (.br (((va_cond (L, L, (↑(List.length L) : Int)) (false, (0 : Int))) && (bif Nat.beq (Prod.fst (va_g (L, L, (↑(List.length L) : Int)) (false, (0 : Int)))) (0 : Nat) then true else (Nat.beq (Prod.fst (va_g (L, L, (↑(List.length L) : Int)) (false, (0 : Int)))) (1 : Nat))))) (.ret (.one (.v false (.bool (bif Nat.beq (Prod.fst (va_g (L, L, (↑(List.length L) : Int)) (false, (0 : Int)))) (0 : Nat) then Prod.fst (Prod.snd (va_g (L, L, (↑(List.length L) : Int)) (false, (0 : Int)))) else true))))) (.bad 116) : Tr AV).val = some (.one (.v false (.bool (valB L)))) := by
  have hn := of_decide_eq_true hc
  obtain ⟨v1, v2⟩ := va_run hn
  show cond _ _ _ = _
  rcases v2 with ⟨h, g⟩ | ⟨h, j, g⟩
  · simp [v1, g, valB_t h, Nat.beq, Tr.val]
  · simp [v1, g, valB_f h, Nat.beq, Tr.val]
noncomputable def vac_g : List AV → Option (Tr AV)
  | [.one (.d _ _ (.prod (.int .i64) (.int .i64)) L)] => some (.br (decide ((L.length : Int) ≤ 9223372036854775807)) (.ret (.one (.v false (.bool (valB L))))) (.bad 900))
  | _ => none
set_option maxHeartbeats 4000000 in
theorem vac_ok : FunOK Try.prog 44 vac_g := by
  refine fun_ok (by kernel_rfl) (S0_ok _) (rgA_L53_ok) 9 (On := (opens [])) (fun args t h => ?_)
  unfold vac_g at h
  split at h
  · rename_i _ _ L
    simp only [Option.some.injEq] at h
    subst h
    refine ⟨[.one (.d false false (.prod (.int .i64) (.int .i64)) L)], rfl, fun fr w us h => h, fun r hr => ?_⟩
    obtain ⟨hc, hr⟩ := br_bad hr
    simp only [Tr.val, Option.some.injEq] at hr
    subst hr
    rw [vac_tree]
    exact vac_val L hc
  · cases h
noncomputable def rgA_S54 : Sums := addS 44 vac_g S0
theorem rgA_S54_ok : SumOK Try.prog rgA_S54 := addS_ok (vac_ok) (S0_ok _)
set_option maxRecDepth 100000 in
theorem fic_tree (L : (Ty.list (.prod (.int .i64) (.int .i64))).den) : evalF Try.prog rgA_S54 (opens []) rgA_L53 9 53 [.one (.d false false (.prod (.int .i64) (.int .i64)) L)] = .br (((fi_cond L (false, (0 : Int))) && (bif Nat.beq (Prod.fst (fi_g L (false, (0 : Int)))) (0 : Nat) then true else (Nat.beq (Prod.fst (fi_g L (false, (0 : Int)))) (1 : Nat))))) (.ret (.one (.v false (.bool (bif Nat.beq (Prod.fst (fi_g L (false, (0 : Int)))) (0 : Nat) then Prod.fst (Prod.snd (fi_g L (false, (0 : Int)))) else decide ((↑(List.length L) : Int) > (0 : Int))))))) (.bad 116) := by kernel_rfl
theorem fic_val (L : (Ty.list (.prod (.int .i64) (.int .i64))).den) (hc : (decide ((L.length : Int) ≤ 9223372036854775807)) = true) : (.br (((fi_cond L (false, (0 : Int))) && (bif Nat.beq (Prod.fst (fi_g L (false, (0 : Int)))) (0 : Nat) then true else (Nat.beq (Prod.fst (fi_g L (false, (0 : Int)))) (1 : Nat))))) (.ret (.one (.v false (.bool (bif Nat.beq (Prod.fst (fi_g L (false, (0 : Int)))) (0 : Nat) then Prod.fst (Prod.snd (fi_g L (false, (0 : Int)))) else decide ((↑(List.length L) : Int) > (0 : Int))))))) (.bad 116) : Tr AV).val = some (.one (.v false (.bool (fineB L)))) := by
  obtain ⟨K, rfl⟩ : ∃ K : Rl, K = L := ⟨L, rfl⟩
  have hn : (K.length : Int) ≤ 9223372036854775807 := of_decide_eq_true hc
  obtain ⟨v1, v2⟩ := fi_run hn
  show cond _ _ _ = _
  rcases v2 with ⟨h, g⟩ | ⟨h, j, g⟩
  · simp only [v1, g, fine_len h, Nat.beq, Tr.val, Bool.and_self, Bool.or_true, Bool.true_or, cond_true, cond_false, Bool.not_true, Bool.not_false]
  · simp only [v1, g, h, Nat.beq, Tr.val, Bool.and_self, Bool.or_true, Bool.true_or, cond_true, cond_false, Bool.not_true, Bool.not_false]
noncomputable def fic_g : List AV → Option (Tr AV)
  | [.one (.d _ _ (.prod (.int .i64) (.int .i64)) L)] => some (.br (decide ((L.length : Int) ≤ 9223372036854775807)) (.ret (.one (.v false (.bool (fineB L))))) (.bad 900))
  | _ => none
set_option maxHeartbeats 4000000 in
theorem fic_ok : FunOK Try.prog 53 fic_g := by
  refine fun_ok (by kernel_rfl) (rgA_S54_ok) (rgA_L53_ok) 9 (On := (opens [])) (fun args t h => ?_)
  unfold fic_g at h
  split at h
  · rename_i _ _ L
    simp only [Option.some.injEq] at h
    subst h
    refine ⟨[.one (.d false false (.prod (.int .i64) (.int .i64)) L)], rfl, fun fr w us h => h, fun r hr => ?_⟩
    obtain ⟨hc, hr⟩ := br_bad hr
    simp only [Tr.val, Option.some.injEq] at hr
    subst hr
    rw [fic_tree]
    exact fic_val L hc
  · cases h
noncomputable def rgA_S55 : Sums := addS 53 fic_g rgA_S54
theorem rgA_S55_ok : SumOK Try.prog rgA_S55 := addS_ok (fic_ok) (rgA_S54_ok)
set_option maxRecDepth 100000 in
theorem lnac_tree (L : (Ty.list (.prod (.int .i64) (.int .i64))).den) : evalF Try.prog rgA_S55 (opens []) rgA_L53 9 29 [.one (.d false false (.prod (.int .i64) (.int .i64)) L)] = .br (((decide ((↑(List.length L) : Int) ≤ (9223372036854775807 : Int))) && (bif !valB L then true else ((lna_cond ((0 : Int), L, (↑(List.length L) : Int)) ((0 : Int), (0 : Int))) && (Nat.beq (Prod.fst (lna_g ((0 : Int), L, (↑(List.length L) : Int)) ((0 : Int), (0 : Int)))) (0 : Nat)))))) (.ret (.one (.v false (.int .i64 (bif !valB L then (0 : Int) else Prod.fst (Prod.snd (lna_g ((0 : Int), L, (↑(List.length L) : Int)) ((0 : Int), (0 : Int))))))))) (.bad 116) := by kernel_rfl
theorem lnac_val (L : (Ty.list (.prod (.int .i64) (.int .i64))).den) (hc : (decide (L.length ≤ 100000)) = true) : (.br (((decide ((↑(List.length L) : Int) ≤ (9223372036854775807 : Int))) && (bif !valB L then true else ((lna_cond ((0 : Int), L, (↑(List.length L) : Int)) ((0 : Int), (0 : Int))) && (Nat.beq (Prod.fst (lna_g ((0 : Int), L, (↑(List.length L) : Int)) ((0 : Int), (0 : Int)))) (0 : Nat)))))) (.ret (.one (.v false (.int .i64 (bif !valB L then (0 : Int) else Prod.fst (Prod.snd (lna_g ((0 : Int), L, (↑(List.length L) : Int)) ((0 : Int), (0 : Int))))))))) (.bad 116) : Tr AV).val = some (.one (.v false (.int .i64 (lenV L)))) := by
  have hn := of_decide_eq_true hc
  have h9 : decide ((L.length : Int) ≤ 9223372036854775807) = true := decide_eq_true (by omega)
  unfold lenV
  show cond _ _ _ = _
  cases hv : valB L
  · simp [h9, hn, Tr.val]
  · obtain ⟨v1, v2⟩ := lna_run (valB_iff.1 hv) hn
    simp [h9, hn, v1, v2, Nat.beq, Tr.val]
noncomputable def lnac_g : List AV → Option (Tr AV)
  | [.one (.d _ _ (.prod (.int .i64) (.int .i64)) L)] => some (.br (decide (L.length ≤ 100000)) (.ret (.one (.v false (.int .i64 (lenV L))))) (.bad 900))
  | _ => none
set_option maxHeartbeats 4000000 in
theorem lnac_ok : FunOK Try.prog 29 lnac_g := by
  refine fun_ok (by kernel_rfl) (rgA_S55_ok) (rgA_L53_ok) 9 (On := (opens [])) (fun args t h => ?_)
  unfold lnac_g at h
  split at h
  · rename_i _ _ L
    simp only [Option.some.injEq] at h
    subst h
    refine ⟨[.one (.d false false (.prod (.int .i64) (.int .i64)) L)], rfl, fun fr w us h => h, fun r hr => ?_⟩
    obtain ⟨hc, hr⟩ := br_bad hr
    simp only [Tr.val, Option.some.injEq] at hr
    subst hr
    rw [lnac_tree]
    exact lnac_val L hc
  · cases h
noncomputable def rgA_S56 : Sums := addS 29 lnac_g rgA_S55
theorem rgA_S56_ok : SumOK Try.prog rgA_S56 := addS_ok (lnac_ok) (rgA_S55_ok)
set_option maxRecDepth 100000 in
theorem vrc_tree (y : Int) (L : (Ty.list (.prod (.int .i64) (.int .i64))).den) : evalF Try.prog rgA_S56 (opens []) rgA_L53 9 33 [.ag [.v false (.int .i64 y), .d false false (.prod (.int .i64) (.int .i64)) L]] = .br ((bif (↑(List.length L) : Int) == (0 : Int) then true else ((decide ((↑(List.length L) : Int) ≤ (9223372036854775807 : Int))) && (bif !valB L then true else ((decide ((0 : Int) ≤ (0 : Int)) && decide ((0 : Int) < (↑(List.length L) : Int))) && ((bif bif bif bif decide ((-4096 : Int) ≤ Prod.fst (el_ii L (0 : Int))) then decide (Prod.fst (el_ii L (0 : Int)) < (4096 : Int)) else false then decide ((-4096 : Int) ≤ y) else false then decide (y < (4096 : Int)) else false then (decide ((0 : Int) ≤ IntKind.wrap IntKind.i64 ((↑(List.length L) : Int) - (1 : Int))) && decide (IntKind.wrap IntKind.i64 ((↑(List.length L) : Int) - (1 : Int)) < (↑(List.length L) : Int))) else true))))))) (.ret (.one (.v false (.bool (bif (↑(List.length L) : Int) == (0 : Int) then false else bif !valB L then false else bif bif bif bif decide ((-4096 : Int) ≤ Prod.fst (el_ii L (0 : Int))) then decide (Prod.fst (el_ii L (0 : Int)) < (4096 : Int)) else false then decide ((-4096 : Int) ≤ y) else false then decide (y < (4096 : Int)) else false then bif bif bif decide ((-4096 : Int) ≤ IntKind.wrap IntKind.i64 (Prod.snd (el_ii L (IntKind.wrap IntKind.i64 ((↑(List.length L) : Int) - (1 : Int)))) - (1 : Int))) then decide (IntKind.wrap IntKind.i64 (Prod.snd (el_ii L (IntKind.wrap IntKind.i64 ((↑(List.length L) : Int) - (1 : Int)))) - (1 : Int)) < (4096 : Int)) else false then decide ((-4096 : Int) ≤ y) else false then decide (y < (4096 : Int)) else false else false))))) (.bad 116) := by kernel_rfl
theorem vrc_val (y : Int) (L : (Ty.list (.prod (.int .i64) (.int .i64))).den) (hc : (decide ((L.length : Int) ≤ 9223372036854775807)) = true) : (.br ((bif (↑(List.length L) : Int) == (0 : Int) then true else ((decide ((↑(List.length L) : Int) ≤ (9223372036854775807 : Int))) && (bif !valB L then true else ((decide ((0 : Int) ≤ (0 : Int)) && decide ((0 : Int) < (↑(List.length L) : Int))) && ((bif bif bif bif decide ((-4096 : Int) ≤ Prod.fst (el_ii L (0 : Int))) then decide (Prod.fst (el_ii L (0 : Int)) < (4096 : Int)) else false then decide ((-4096 : Int) ≤ y) else false then decide (y < (4096 : Int)) else false then (decide ((0 : Int) ≤ IntKind.wrap IntKind.i64 ((↑(List.length L) : Int) - (1 : Int))) && decide (IntKind.wrap IntKind.i64 ((↑(List.length L) : Int) - (1 : Int)) < (↑(List.length L) : Int))) else true))))))) (.ret (.one (.v false (.bool (bif (↑(List.length L) : Int) == (0 : Int) then false else bif !valB L then false else bif bif bif bif decide ((-4096 : Int) ≤ Prod.fst (el_ii L (0 : Int))) then decide (Prod.fst (el_ii L (0 : Int)) < (4096 : Int)) else false then decide ((-4096 : Int) ≤ y) else false then decide (y < (4096 : Int)) else false then bif bif bif decide ((-4096 : Int) ≤ IntKind.wrap IntKind.i64 (Prod.snd (el_ii L (IntKind.wrap IntKind.i64 ((↑(List.length L) : Int) - (1 : Int)))) - (1 : Int))) then decide (IntKind.wrap IntKind.i64 (Prod.snd (el_ii L (IntKind.wrap IntKind.i64 ((↑(List.length L) : Int) - (1 : Int)))) - (1 : Int)) < (4096 : Int)) else false then decide ((-4096 : Int) ≤ y) else false then decide (y < (4096 : Int)) else false else false))))) (.bad 116) : Tr AV).val = some (.one (.v false (.bool (rowB y L)))) := by
  obtain ⟨K, rfl⟩ : ∃ K : Rl, K = L := ⟨L, rfl⟩
  have hn : (K.length : Int) ≤ 9223372036854775807 := of_decide_eq_true hc
  rw [rowB_eq]
  show cond _ _ _ = _
  by_cases h0 : K.length = 0
  · have e : K = [] := List.length_eq_zero_iff.1 h0
    subst e
    have f : fineB [] = false := by rw [← Bool.not_eq_true, fineB_iff]; exact fun h => h.1 rfl
    rw [f]
    simp [Tr.val]
  · have hp : 0 < K.length := by omega
    have b0 : ((K.length : Int) == (0 : Int)) = false := by rw [beq_eq_false_iff_ne]; omega
    have cn : decide ((K.length : Int) ≤ 9223372036854775807) = true := decide_eq_true hn
    cases hv : valB K
    · have f : fineB K = false := by
        rw [← Bool.not_eq_true, fineB_iff]
        intro h
        have := valB_iff.2 (rowOk_val (r := (0, K)) (rowOk_iff.2 ⟨by omega, by omega, h⟩))
        rw [hv] at this; cases this
      simp only [b0, cn, f, Bool.not_false, Bool.and_false, Bool.and_self, cond_true, cond_false, Tr.val]
    · have h := valB_iff.1 hv
      have a := good_in h hp
      have z := good_in h (j := K.length - 1) (by omega)
      have e0 : el_ii K (0 : Int) = K[0] := el_r (i := 0) hp
      have e1 : IntKind.wrap IntKind.i64 ((K.length : Int) - (1 : Int)) = ((K.length - 1 : Nat) : Int) := by rw [wid (by omega) (by omega)]; omega
      have e2 := el_r (L := K) (i := K.length - 1) (by omega)
      have w1 : IntKind.wrap IntKind.i64 ((K[K.length - 1]'(by omega)).2 - (1 : Int)) = (K[K.length - 1]'(by omega)).2 - 1 := wid (by omega) (by omega)
      have c0 : decide ((0 : Int) < (K.length : Int)) = true := decide_eq_true (by omega)
      have c1 : decide (((K.length - 1 : Nat) : Int) < (K.length : Int)) = true := decide_eq_true (by omega)
      have c2 : decide ((0 : Int) ≤ ((K.length - 1 : Nat) : Int)) = true := decide_eq_true (by omega)
      have c3 : decide ((0 : Int) ≤ (0 : Int)) = true := rfl
      have hf : fineB K = (decide (-4096 ≤ K[0].1) && decide ((K[K.length - 1]'(by omega)).2 ≤ 4096)) := by
        rw [Bool.eq_iff_iff, fineB_iff, fine_ends h hp, Bool.and_eq_true, decide_eq_true_eq, decide_eq_true_eq]
      have hin := (val_ends h hp _ (List.getElem_mem (show K.length - 1 < K.length by omega)))
      have hin2 := (val_ends h hp _ (List.getElem_mem hp))
      rw [hf]
      simp only [b0, cn, e0, e1, e2, w1, c0, c1, c2, c3, Bool.not_true, Bool.and_self, Bool.cond_self, cond_true, cond_false]
      refine congrArg (fun b => some (AV.one (.v false (.bool b)))) ?_
      rw [Bool.eq_iff_iff]
      simp [Bool.cond_eq_ite]
      omega
noncomputable def vrc_g : List AV → Option (Tr AV)
  | [.ag [.v _ (.int .i64 y), .d _ _ (.prod (.int .i64) (.int .i64)) L]] => some (.br (decide ((L.length : Int) ≤ 9223372036854775807)) (.ret (.one (.v false (.bool (rowB y L))))) (.bad 900))
  | _ => none
set_option maxHeartbeats 4000000 in
theorem vrc_ok : FunOK Try.prog 33 vrc_g := by
  refine fun_ok (by kernel_rfl) (rgA_S56_ok) (rgA_L53_ok) 9 (On := (opens [])) (fun args t h => ?_)
  unfold vrc_g at h
  split at h
  · rename_i _ y _ _ L
    simp only [Option.some.injEq] at h
    subst h
    refine ⟨[.ag [.v false (.int .i64 y), .d false false (.prod (.int .i64) (.int .i64)) L]], rfl, fun fr w us h => h, fun r hr => ?_⟩
    obtain ⟨hc, hr⟩ := br_bad hr
    simp only [Tr.val, Option.some.injEq] at hr
    subst hr
    rw [vrc_tree]
    exact vrc_val y L hc
  · cases h
noncomputable def rgA_S57 : Sums := addS 33 vrc_g rgA_S56
theorem rgA_S57_ok : SumOK Try.prog rgA_S57 := addS_ok (vrc_ok) (rgA_S56_ok)
abbrev gva_U : Type := (Ty.list (.prod (.int .i64) (.list (.prod (.int .i64) (.int .i64))))).den × Int × (Ty.list (.prod (.int .i64) (.list (.prod (.int .i64) (.int .i64))))).den
abbrev gva_V : Type := Bool × Int
noncomputable def gva_St (u : gva_U) (v : gva_V) : Stt := ⟨[.one .junk, .one (.p 0 0), .one (.v false (.bool v.1)), .one .junk, .one .junk, .one .junk, .one (.d false false (.prod (.int .i64) (.list (.prod (.int .i64) (.int .i64)))) u.1), .one (.v false (.int .i64 u.2.1)), .one (.v false (.int .i64 v.2)), .one .junk, .one .junk, .one .junk, .one .junk, .one .junk, .one .junk, .one .junk, .one .junk, .one .junk, .one .junk, .one .junk, .one .junk, .one .junk, .one .junk, .one .junk, .one .junk, .one .junk, .one .junk, .one .junk, .one .junk, .one .junk, .one .junk, .one .junk, .one .junk], [(0, .cells [.d false false (.prod (.int .i64) (.list (.prod (.int .i64) (.int .i64)))) u.2.2])], 1006⟩
def el_ilii (l : (Ty.list (Ty.prod (Ty.int IntKind.i64) (Ty.list (Ty.prod (Ty.int IntKind.i64) (Ty.int IntKind.i64))))).den) (i : Int) : (Int × (List (Int × Int))) := elm (Ty.prod (Ty.int IntKind.i64) (Ty.list (Ty.prod (Ty.int IntKind.i64) (Ty.int IntKind.i64)))) l i
noncomputable def gva_step (u : gva_U) (v : gva_V) : Tr (gva_V ⊕ (Nat × gva_V)) :=
  match u, v with
  | (q1, q2, q4), (q0, q3) => .br (decide (q3 < q2)) (.br (decide ((0 : Int) ≤ q3) && decide (q3 < (↑(List.length q1) : Int))) (.br ((bif decide (q3 > (0 : Int)) then (decide ((0 : Int) ≤ IntKind.wrap IntKind.i64 (q3 - (1 : Int))) && decide (IntKind.wrap IntKind.i64 (q3 - (1 : Int)) < (↑(List.length q4) : Int))) else true)) (.br (bif decide (q3 > (0 : Int)) then decide (Prod.fst (el_ilii q1 q3) ≤ Prod.fst (el_ilii q4 (IntKind.wrap IntKind.i64 (q3 - (1 : Int))))) else false) (.ret (.inr (0, (false, q3)))) (.br (decide ((↑(List.length (Prod.snd (el_ilii q1 q3))) : Int) ≤ (9223372036854775807 : Int))) (.br (!rowB (Prod.fst (el_ilii q1 q3)) (Prod.snd (el_ilii q1 q3))) (.ret (.inr (0, (false, q3)))) (.ret (.inl (q0, IntKind.wrap IntKind.i64 (q3 + (1 : Int)))))) (.bad 900))) (.bad 117)) (.bad 29)) (.ret (.inr (1, (q0, q3))))
set_option maxRecDepth 100000 in
set_option maxHeartbeats 4000000 in
theorem gva_step_eq : ∀ (u : gva_U) (v : gva_V), (evalC Try.prog (evalB Try.prog rgA_S57 (opens []) rgA_L53 7).1 (evalB Try.prog rgA_S57 (opens []) rgA_L53 7).2 (opens []) (rgA_L53 21) 100000 (0 :: [0, 1, 0, 1]) (loopOf (bodyOf Try.prog 21) [1, 0, 1, 0]) (gva_St u v) []).bind (finF [0, 3, 4, 5, 9, 10, 11, 12, 13, 14, 15, 16, 17, 18, 19, 20, 21, 22, 23, 24, 25, 26, 27, 28, 29, 30, 31, 32] [] [0] [] 1006) = (gva_step u v).bind (outA (gva_St u) [.ret, .exit 0]) := by
  rintro ⟨q1, q2, q4⟩ ⟨q0, q3⟩
  kernel_rfl
noncomputable def gva_rd (b : Bool) (o1 : Option AV) (o2 : Option AV) (o6 : Option AV) (o7 : Option AV) (o8 : Option AV) (own : Own) : Option (gva_U × gva_V) := zrT b <| zrO o1 fun za1 => zrA1 za1 fun zc2 => zrP 0 0 zc2 <| zrO o2 fun za3 => zrA1 za3 fun zc4 => zrB zc4 fun q0 => zrO o6 fun za5 => zrA1 za5 fun zc6 => zrD (.prod (.int .i64) (.list (.prod (.int .i64) (.int .i64)))) zc6 fun q1 => zrO o7 fun za7 => zrA1 za7 fun zc8 => zrI .i64 zc8 fun q2 => zrO o8 fun za9 => zrA1 za9 fun zc10 => zrI .i64 zc10 fun q3 => zrL own fun zq11 zw12 => zrKey 0 zq11 fun zk13 => zrC zk13 fun zl14 => zrL zl14 fun zc15 zr16 => zrD (.prod (.int .i64) (.list (.prod (.int .i64) (.int .i64)))) zc15 fun q4 => zrN zr16 <| zrN zw12 <| some ((q1, q2, q4), (q0, q3))
noncomputable def gva_can (st : Stt) : Stt := canA [0, 3, 4, 5, 9, 10, 11, 12, 13, 14, 15, 16, 17, 18, 19, 20, 21, 22, 23, 24, 25, 26, 27, 28, 29, 30, 31, 32] [] [0] [] 1006 st
noncomputable def gva_cok (st : Stt) : Bool := canAok [0, 3, 4, 5, 9, 10, 11, 12, 13, 14, 15, 16, 17, 18, 19, 20, 21, 22, 23, 24, 25, 26, 27, 28, 29, 30, 31, 32] [] [0] [] 1006 st
noncomputable def gva_read (st : Stt) : Option (gva_U × gva_V) := gva_rd (gva_cok st && (staysA [] [0] st.own && juAll [0, 3, 4, 5, 9, 10, 11, 12, 13, 14, 15, 16, 17, 18, 19, 20, 21, 22, 23, 24, 25, 26, 27, 28, 29, 30, 31, 32] (gva_can st).tm 33)) (gva_can st).tm[1]? (gva_can st).tm[2]? (gva_can st).tm[6]? (gva_can st).tm[7]? (gva_can st).tm[8]? (gva_can st).own
set_option maxRecDepth 100000 in
set_option maxHeartbeats 4000000 in
theorem gva_rd_ok {b : Bool} {tm : List AV} {own : Own} {u : gva_U} {v : gva_V} (hj : b = true → juAll [0, 3, 4, 5, 9, 10, 11, 12, 13, 14, 15, 16, 17, 18, 19, 20, 21, 22, 23, 24, 25, 26, 27, 28, 29, 30, 31, 32] tm 33 = true) (h : gva_rd b tm[1]? tm[2]? tm[6]? tm[7]? tm[8]? own = some (u, v)) : b = true ∧ tm = (gva_St u v).tm ∧ own = (gva_St u v).own := by
  unfold gva_rd at h
  obtain ⟨rfl, h0⟩ := zrT_some h
  obtain ⟨za1, e1, h1⟩ := zrO_some h0
  obtain ⟨zc2, rfl, h2⟩ := zrA1_some h1
  obtain ⟨rfl, h3⟩ := zrP_some h2
  obtain ⟨za3, e2, h4⟩ := zrO_some h3
  obtain ⟨zc4, rfl, h5⟩ := zrA1_some h4
  obtain ⟨q0, rfl, h6⟩ := zrB_some h5
  obtain ⟨za5, e6, h7⟩ := zrO_some h6
  obtain ⟨zc6, rfl, h8⟩ := zrA1_some h7
  obtain ⟨q1, rfl, h9⟩ := zrD_some h8
  obtain ⟨za7, e7, h10⟩ := zrO_some h9
  obtain ⟨zc8, rfl, h11⟩ := zrA1_some h10
  obtain ⟨q2, rfl, h12⟩ := zrI_some h11
  obtain ⟨za9, e8, h13⟩ := zrO_some h12
  obtain ⟨zc10, rfl, h14⟩ := zrA1_some h13
  obtain ⟨q3, rfl, h15⟩ := zrI_some h14
  obtain ⟨zq11, zw12, rfl, h16⟩ := zrL_some h15
  obtain ⟨zk13, rfl, h17⟩ := zrKey_some h16
  obtain ⟨zl14, rfl, h18⟩ := zrC_some h17
  obtain ⟨zc15, zr16, rfl, h19⟩ := zrL_some h18
  obtain ⟨q4, rfl, h20⟩ := zrD_some h19
  obtain ⟨rfl, h21⟩ := zrN_some h20
  obtain ⟨rfl, h22⟩ := zrN_some h21
  have h := Option.some.inj h22
  have hu := congrArg Prod.fst h
  have hv := congrArg Prod.snd h
  dsimp only at hu hv
  subst hu
  subst hv
  exact ⟨rfl, (tm_fill (hj rfl) (Lv := [(1, .one (.p 0 0)), (2, .one (.v false (.bool q0))), (6, .one (.d false false (.prod (.int .i64) (.list (.prod (.int .i64) (.int .i64)))) q1)), (7, .one (.v false (.int .i64 q2))), (8, .one (.v false (.int .i64 q3)))]) (by kernel_rfl) ⟨e1, e2, e6, e7, e8, trivial⟩).trans (by kernel_rfl), rfl⟩
theorem gva_read_ok (st : Stt) (u : gva_U) (v : gva_V) (h : gva_read st = some (u, v)) : gva_cok st = true ∧ staysA [] [0] st.own = true ∧ gva_can st = gva_St u v := by
  obtain ⟨h1, h2, h3⟩ := gva_rd_ok (fun hb => by rw [Bool.and_eq_true, Bool.and_eq_true] at hb; exact hb.2.2) h
  rw [Bool.and_eq_true, Bool.and_eq_true] at h1
  refine ⟨h1.1, h1.2.1, ?_⟩
  have e : gva_can st = ⟨(gva_can st).tm, (gva_can st).own, 1006⟩ := by kernel_rfl
  rw [e, h2, h3]
  rfl
noncomputable def gva_cond (u : gva_U) (v : gva_V) : Bool := runC (gva_step u) v
noncomputable def gva_g (u : gva_U) (v : gva_V) : Nat × gva_V := runG (gva_step u) v
theorem gva_hg : ∀ (u : gva_U) (v : gva_V), gva_cond u v = true → loopN (gva_step u) ((fun u v => runF (gva_step u) v) u v) v = some (gva_g u v) := by
  exact fun u v h => run_hg h
noncomputable def gva_m (st : Stt) : Option (Tr (Ex × Stt)) := sumM gva_read gva_cond gva_St gva_g [(0, .ret), (1, .exit 0)] st
noncomputable def rgA_L58 : FuncId → Loops := addL 21 [0, 1, 0, 1] gva_m rgA_L53
set_option maxRecDepth 100000 in
set_option maxHeartbeats 4000000 in
theorem rgA_L58_ok : LoopsOK Try.prog rgA_L58 :=
  loop_sumF (body := (bodyOf Try.prog 21)) (c := (loopOf (bodyOf Try.prog 21) [1, 0, 1, 0])) (kinds := [.ret, .exit 0]) (allow := [(0, .ret), (1, .exit 0)]) (St := gva_St) (step := gva_step) (W := [0, 3, 4, 5, 9, 10, 11, 12, 13, 14, 15, 16, 17, 18, 19, 20, 21, 22, 23, 24, 25, 26, 27, 28, 29, 30, 31, 32]) (As := []) (ks := [0]) (dd := []) (nx := 1006) (n := 100000) (g := gva_g) (cond := gva_cond) (fuel := (fun u v => runF (gva_step u) v)) (read := gva_read) (by kernel_rfl) (rgA_S57_ok) (rgA_L53_ok) 7 ⟨Try.f21, by kernel_rfl, by kernel_rfl⟩ (by kernel_rfl) (by kernel_rfl) (by kernel_rfl) gva_step_eq gva_hg gva_read_ok
abbrev gvb_U : Type := (Ty.list (.prod (.int .i64) (.list (.prod (.int .i64) (.int .i64))))).den
abbrev gvb_V : Type := Bool × Int
noncomputable def gvb_St (u : gvb_U) (v : gvb_V) : Stt := ⟨[.one .junk, .one (.p 0 0), .one (.v false (.bool v.1)), .one (.v false (.int .i64 v.2)), .one .junk, .one .junk, .one .junk, .one .junk, .one .junk, .one .junk, .one .junk, .one .junk, .one .junk, .one .junk, .one .junk, .one .junk, .one .junk, .one .junk, .one .junk, .one .junk, .one .junk, .one .junk, .one .junk, .one .junk, .one .junk, .one .junk, .one .junk, .one .junk, .one .junk, .one .junk, .one .junk, .one .junk, .one .junk, .one .junk, .one .junk, .one .junk, .one .junk, .one .junk, .one .junk, .one .junk, .one .junk, .one .junk, .one .junk, .one .junk, .one .junk, .one .junk, .one .junk, .one .junk, .one .junk], [(0, .cells [.d false false (.prod (.int .i64) (.list (.prod (.int .i64) (.int .i64)))) u])], 1003⟩
noncomputable def gvb_step (u : gvb_U) (v : gvb_V) : Tr (gvb_V ⊕ (Nat × gvb_V)) :=
  match u, v with
  | q2, (q0, q1) => .br (decide (q1 < (↑(List.length q2) : Int))) (.br (decide ((0 : Int) ≤ q1) && decide (q1 < (↑(List.length q2) : Int))) (.br ((bif bif decide (Prod.fst (el_ilii q2 q1) < (-4096 : Int)) then true else decide (Prod.fst (el_ilii q2 q1) ≥ (4096 : Int)) then true else (bif decide (q1 > (0 : Int)) then (decide ((0 : Int) ≤ IntKind.wrap IntKind.i64 (q1 - (1 : Int))) && decide (IntKind.wrap IntKind.i64 (q1 - (1 : Int)) < (↑(List.length q2) : Int))) else true))) (.br (bif bif decide (Prod.fst (el_ilii q2 q1) < (-4096 : Int)) then true else decide (Prod.fst (el_ilii q2 q1) ≥ (4096 : Int)) then true else bif decide (q1 > (0 : Int)) then decide (Prod.fst (el_ilii q2 q1) ≤ Prod.fst (el_ilii q2 (IntKind.wrap IntKind.i64 (q1 - (1 : Int))))) else false) (.ret (.inr (0, (false, q1)))) (.br (decide ((0 : Int) ≤ q1) && decide (q1 < (↑(List.length q2) : Int))) (.br (decide ((↑(List.length (Prod.snd (el_ilii q2 q1))) : Int) ≤ (9223372036854775807 : Int))) (.br (!fineB (Prod.snd (el_ilii q2 q1))) (.ret (.inr (0, (false, q1)))) (.ret (.inl (q0, IntKind.wrap IntKind.i64 (q1 + (1 : Int)))))) (.bad 900)) (.bad 29))) (.bad 117)) (.bad 29)) (.ret (.inr (1, (q0, q1))))
set_option maxRecDepth 100000 in
set_option maxHeartbeats 4000000 in
theorem gvb_step_eq : ∀ (u : gvb_U) (v : gvb_V), (evalC Try.prog (evalB Try.prog rgA_S57 (opens []) rgA_L58 7).1 (evalB Try.prog rgA_S57 (opens []) rgA_L58 7).2 (opens []) (rgA_L58 46) 100000 (0 :: [0, 1, 0, 1]) (loopOf (bodyOf Try.prog 46) [1, 0, 1, 0]) (gvb_St u v) []).bind (finF [0, 4, 5, 6, 7, 8, 9, 10, 11, 12, 13, 14, 15, 16, 17, 18, 19, 20, 21, 22, 23, 24, 25, 26, 27, 28, 29, 30, 31, 32, 33, 34, 35, 36, 37, 38, 39, 40, 41, 42, 43, 44, 45, 46, 47, 48] [] [0] [] 1003) = (gvb_step u v).bind (outA (gvb_St u) [.ret, .exit 0]) := by
  rintro q2 ⟨q0, q1⟩
  kernel_rfl
noncomputable def gvb_rd (b : Bool) (o1 : Option AV) (o2 : Option AV) (o3 : Option AV) (own : Own) : Option (gvb_U × gvb_V) := zrT b <| zrO o1 fun za1 => zrA1 za1 fun zc2 => zrP 0 0 zc2 <| zrO o2 fun za3 => zrA1 za3 fun zc4 => zrB zc4 fun q0 => zrO o3 fun za5 => zrA1 za5 fun zc6 => zrI .i64 zc6 fun q1 => zrL own fun zq7 zw8 => zrKey 0 zq7 fun zk9 => zrC zk9 fun zl10 => zrL zl10 fun zc11 zr12 => zrD (.prod (.int .i64) (.list (.prod (.int .i64) (.int .i64)))) zc11 fun q2 => zrN zr12 <| zrN zw8 <| some (q2, (q0, q1))
noncomputable def gvb_can (st : Stt) : Stt := canA [0, 4, 5, 6, 7, 8, 9, 10, 11, 12, 13, 14, 15, 16, 17, 18, 19, 20, 21, 22, 23, 24, 25, 26, 27, 28, 29, 30, 31, 32, 33, 34, 35, 36, 37, 38, 39, 40, 41, 42, 43, 44, 45, 46, 47, 48] [] [0] [] 1003 st
noncomputable def gvb_cok (st : Stt) : Bool := canAok [0, 4, 5, 6, 7, 8, 9, 10, 11, 12, 13, 14, 15, 16, 17, 18, 19, 20, 21, 22, 23, 24, 25, 26, 27, 28, 29, 30, 31, 32, 33, 34, 35, 36, 37, 38, 39, 40, 41, 42, 43, 44, 45, 46, 47, 48] [] [0] [] 1003 st
noncomputable def gvb_read (st : Stt) : Option (gvb_U × gvb_V) := gvb_rd (gvb_cok st && (staysA [] [0] st.own && juAll [0, 4, 5, 6, 7, 8, 9, 10, 11, 12, 13, 14, 15, 16, 17, 18, 19, 20, 21, 22, 23, 24, 25, 26, 27, 28, 29, 30, 31, 32, 33, 34, 35, 36, 37, 38, 39, 40, 41, 42, 43, 44, 45, 46, 47, 48] (gvb_can st).tm 49)) (gvb_can st).tm[1]? (gvb_can st).tm[2]? (gvb_can st).tm[3]? (gvb_can st).own
set_option maxRecDepth 100000 in
set_option maxHeartbeats 4000000 in
theorem gvb_rd_ok {b : Bool} {tm : List AV} {own : Own} {u : gvb_U} {v : gvb_V} (hj : b = true → juAll [0, 4, 5, 6, 7, 8, 9, 10, 11, 12, 13, 14, 15, 16, 17, 18, 19, 20, 21, 22, 23, 24, 25, 26, 27, 28, 29, 30, 31, 32, 33, 34, 35, 36, 37, 38, 39, 40, 41, 42, 43, 44, 45, 46, 47, 48] tm 49 = true) (h : gvb_rd b tm[1]? tm[2]? tm[3]? own = some (u, v)) : b = true ∧ tm = (gvb_St u v).tm ∧ own = (gvb_St u v).own := by
  unfold gvb_rd at h
  obtain ⟨rfl, h0⟩ := zrT_some h
  obtain ⟨za1, e1, h1⟩ := zrO_some h0
  obtain ⟨zc2, rfl, h2⟩ := zrA1_some h1
  obtain ⟨rfl, h3⟩ := zrP_some h2
  obtain ⟨za3, e2, h4⟩ := zrO_some h3
  obtain ⟨zc4, rfl, h5⟩ := zrA1_some h4
  obtain ⟨q0, rfl, h6⟩ := zrB_some h5
  obtain ⟨za5, e3, h7⟩ := zrO_some h6
  obtain ⟨zc6, rfl, h8⟩ := zrA1_some h7
  obtain ⟨q1, rfl, h9⟩ := zrI_some h8
  obtain ⟨zq7, zw8, rfl, h10⟩ := zrL_some h9
  obtain ⟨zk9, rfl, h11⟩ := zrKey_some h10
  obtain ⟨zl10, rfl, h12⟩ := zrC_some h11
  obtain ⟨zc11, zr12, rfl, h13⟩ := zrL_some h12
  obtain ⟨q2, rfl, h14⟩ := zrD_some h13
  obtain ⟨rfl, h15⟩ := zrN_some h14
  obtain ⟨rfl, h16⟩ := zrN_some h15
  have h := Option.some.inj h16
  have hu := congrArg Prod.fst h
  have hv := congrArg Prod.snd h
  dsimp only at hu hv
  subst hu
  subst hv
  exact ⟨rfl, (tm_fill (hj rfl) (Lv := [(1, .one (.p 0 0)), (2, .one (.v false (.bool q0))), (3, .one (.v false (.int .i64 q1)))]) (by kernel_rfl) ⟨e1, e2, e3, trivial⟩).trans (by kernel_rfl), rfl⟩
theorem gvb_read_ok (st : Stt) (u : gvb_U) (v : gvb_V) (h : gvb_read st = some (u, v)) : gvb_cok st = true ∧ staysA [] [0] st.own = true ∧ gvb_can st = gvb_St u v := by
  obtain ⟨h1, h2, h3⟩ := gvb_rd_ok (fun hb => by rw [Bool.and_eq_true, Bool.and_eq_true] at hb; exact hb.2.2) h
  rw [Bool.and_eq_true, Bool.and_eq_true] at h1
  refine ⟨h1.1, h1.2.1, ?_⟩
  have e : gvb_can st = ⟨(gvb_can st).tm, (gvb_can st).own, 1003⟩ := by kernel_rfl
  rw [e, h2, h3]
  rfl
noncomputable def gvb_cond (u : gvb_U) (v : gvb_V) : Bool := runC (gvb_step u) v
noncomputable def gvb_g (u : gvb_U) (v : gvb_V) : Nat × gvb_V := runG (gvb_step u) v
theorem gvb_hg : ∀ (u : gvb_U) (v : gvb_V), gvb_cond u v = true → loopN (gvb_step u) ((fun u v => runF (gvb_step u) v) u v) v = some (gvb_g u v) := by
  exact fun u v h => run_hg h
noncomputable def gvb_m (st : Stt) : Option (Tr (Ex × Stt)) := sumM gvb_read gvb_cond gvb_St gvb_g [(0, .ret), (1, .exit 0)] st
noncomputable def rgA_L59 : FuncId → Loops := addL 46 [0, 1, 0, 1] gvb_m rgA_L58
set_option maxRecDepth 100000 in
set_option maxHeartbeats 4000000 in
theorem rgA_L59_ok : LoopsOK Try.prog rgA_L59 :=
  loop_sumF (body := (bodyOf Try.prog 46)) (c := (loopOf (bodyOf Try.prog 46) [1, 0, 1, 0])) (kinds := [.ret, .exit 0]) (allow := [(0, .ret), (1, .exit 0)]) (St := gvb_St) (step := gvb_step) (W := [0, 4, 5, 6, 7, 8, 9, 10, 11, 12, 13, 14, 15, 16, 17, 18, 19, 20, 21, 22, 23, 24, 25, 26, 27, 28, 29, 30, 31, 32, 33, 34, 35, 36, 37, 38, 39, 40, 41, 42, 43, 44, 45, 46, 47, 48]) (As := []) (ks := [0]) (dd := []) (nx := 1003) (n := 100000) (g := gvb_g) (cond := gvb_cond) (fuel := (fun u v => runF (gvb_step u) v)) (read := gvb_read) (by kernel_rfl) (rgA_S57_ok) (rgA_L58_ok) 7 ⟨Try.f46, by kernel_rfl, by kernel_rfl⟩ (by kernel_rfl) (by kernel_rfl) (by kernel_rfl) gvb_step_eq gvb_hg gvb_read_ok
end Go.Proofs.Ytehnepfjbaneaaa
