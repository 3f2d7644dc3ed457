/-
  Texts in one: RgA, RgB.
-/
import Derived.Test.YtacgchandefjgaaProg
import Derived.Test.YtacgchandefjgaaFvX
import Derived.Test.YtacgchandefjgaaFvZ
import Derived.Test.YtacgchandefjgaaAut
import Derived.Test.YtacgchandefjgaaRd
import Derived.Test.YtacgchandefjgaaPl
import Derived.Test.YtacgchandefjgaaScn
import Derived.Test.YtacgchandefjgaaMor
namespace Go.Proofs.Ytacgchandefjgaa
open Go
abbrev va_U : Type := (Ty.list (.prod (.int .i64) (.int .i64))).den × (Ty.list (.prod (.int .i64) (.int .i64))).den × Int
abbrev va_V : Type := Bool × Int
noncomputable def va_St (u : va_U) (v : va_V) : Stt := ⟨[.one (.d false false (.prod (.int .i64) (.int .i64)) u.1), .one .junk, .one (.v false (.bool v.1)), .one .junk, .one .junk, .one (.d false false (.prod (.int .i64) (.int .i64)) u.2.1), .one (.v false (.int .i64 u.2.2)), .one (.v false (.int .i64 v.2)), .one .junk, .one .junk, .one .junk, .one .junk, .one .junk, .one .junk, .one .junk, .one .junk, .one .junk, .one .junk, .one .junk, .one .junk, .one .junk, .one .junk, .one .junk, .one .junk, .one .junk, .one .junk, .one .junk, .one .junk, .one .junk, .one .junk, .one .junk, .one .junk, .one .junk, .one .junk, .one .junk, .one .junk, .one .junk, .one .junk], [], 1004⟩
def el_ii (l : (Ty.list (Ty.prod (Ty.int IntKind.i64) (Ty.int IntKind.i64))).den) (i : Int) : (Int × Int) := elm (Ty.prod (Ty.int IntKind.i64) (Ty.int IntKind.i64)) l i
noncomputable def va_step (u : va_U) (v : va_V) : Tr (va_V ⊕ (Nat × va_V)) :=
  match u, v with
  | (q0, q2, q3), (q1, q4) => .br (decide (q4 < q3)) (.br (decide ((0 : Int) ≤ q4) && decide (q4 < (↑(List.length q2) : Int))) (.br ((bif bif decide (Prod.fst (el_ii q2 q4) ≥ Prod.snd (el_ii q2 q4)) then true else !bif decide (Prod.fst (el_ii q2 q4) ≥ (-1048576 : Int)) then decide (Prod.snd (el_ii q2 q4) ≤ (1048576 : Int)) else false then true else (bif decide (q4 > (0 : Int)) then (decide ((0 : Int) ≤ IntKind.wrap .i64 (q4 - (1 : Int))) && decide (IntKind.wrap .i64 (q4 - (1 : Int)) < (↑(List.length q0) : Int))) else true))) (.br (bif bif decide (Prod.fst (el_ii q2 q4) ≥ Prod.snd (el_ii q2 q4)) then true else !bif decide (Prod.fst (el_ii q2 q4) ≥ (-1048576 : Int)) then decide (Prod.snd (el_ii q2 q4) ≤ (1048576 : Int)) else false then true else bif decide (q4 > (0 : Int)) then decide (Prod.fst (el_ii q2 q4) ≤ Prod.snd (el_ii q0 (IntKind.wrap .i64 (q4 - (1 : Int))))) else false) (.ret (.inr (0, (false, q4)))) (.ret (.inl (q1, IntKind.wrap .i64 (q4 + (1 : Int)))))) (.bad 117)) (.bad 29)) (.ret (.inr (1, (q1, q4))))
set_option maxRecDepth 100000 in
set_option maxHeartbeats 4000000 in
theorem va_step_eq : ∀ (u : va_U) (v : va_V), (evalC Try.prog (evalB Try.prog S0 (opens []) L0 7).1 (evalB Try.prog S0 (opens []) L0 7).2 (opens []) (L0 96) 100000 (0 :: [0, 1, 0, 1]) (loopOf (bodyOf Try.prog 96) [1, 0, 1, 0]) (va_St u v) []).bind (finF [1, 3, 4, 8, 9, 10, 11, 12, 13, 14, 15, 16, 17, 18, 19, 20, 21, 22, 23, 24, 25, 26, 27, 28, 29, 30, 31, 32, 33, 34, 35, 36, 37] [] [] [] 1004) = (va_step u v).bind (outA (va_St u) [.ret, .exit 0]) := by
  rintro ⟨q0, q2, q3⟩ ⟨q1, q4⟩
  kernel_rfl
noncomputable def va_rd (b : Bool) (o0 : Option AV) (o2 : Option AV) (o5 : Option AV) (o6 : Option AV) (o7 : Option AV) (own : Own) : Option (va_U × va_V) := zrT b <| zrO o0 fun za1 => zrA1 za1 fun zc2 => zrD (.prod (.int .i64) (.int .i64)) zc2 fun q0 => zrO o2 fun za3 => zrA1 za3 fun zc4 => zrB zc4 fun q1 => zrO o5 fun za5 => zrA1 za5 fun zc6 => zrD (.prod (.int .i64) (.int .i64)) zc6 fun q2 => zrO o6 fun za7 => zrA1 za7 fun zc8 => zrI .i64 zc8 fun q3 => zrO o7 fun za9 => zrA1 za9 fun zc10 => zrI .i64 zc10 fun q4 => zrN own <| some ((q0, q2, q3), (q1, q4))
noncomputable def va_can (st : Stt) : Stt := canA [1, 3, 4, 8, 9, 10, 11, 12, 13, 14, 15, 16, 17, 18, 19, 20, 21, 22, 23, 24, 25, 26, 27, 28, 29, 30, 31, 32, 33, 34, 35, 36, 37] [] [] [] 1004 st
noncomputable def va_cok (st : Stt) : Bool := canAok [1, 3, 4, 8, 9, 10, 11, 12, 13, 14, 15, 16, 17, 18, 19, 20, 21, 22, 23, 24, 25, 26, 27, 28, 29, 30, 31, 32, 33, 34, 35, 36, 37] [] [] [] 1004 st
noncomputable def va_read (st : Stt) : Option (va_U × va_V) := va_rd (va_cok st && (staysA [] [] st.own && juAll [1, 3, 4, 8, 9, 10, 11, 12, 13, 14, 15, 16, 17, 18, 19, 20, 21, 22, 23, 24, 25, 26, 27, 28, 29, 30, 31, 32, 33, 34, 35, 36, 37] (va_can st).tm 38)) (va_can st).tm[0]? (va_can st).tm[2]? (va_can st).tm[5]? (va_can st).tm[6]? (va_can st).tm[7]? (va_can st).own
set_option maxRecDepth 100000 in
set_option maxHeartbeats 4000000 in
theorem va_rd_ok {b : Bool} {tm : List AV} {own : Own} {u : va_U} {v : va_V} (hj : b = true → juAll [1, 3, 4, 8, 9, 10, 11, 12, 13, 14, 15, 16, 17, 18, 19, 20, 21, 22, 23, 24, 25, 26, 27, 28, 29, 30, 31, 32, 33, 34, 35, 36, 37] tm 38 = true) (h : va_rd b tm[0]? tm[2]? tm[5]? tm[6]? tm[7]? own = some (u, v)) : b = true ∧ tm = (va_St u v).tm ∧ own = (va_St u v).own := by
  unfold va_rd at h
  obtain ⟨rfl, h0⟩ := zrT_some h
  obtain ⟨za1, e0, h1⟩ := zrO_some h0
  obtain ⟨zc2, rfl, h2⟩ := zrA1_some h1
  obtain ⟨q0, rfl, h3⟩ := zrD_some h2
  obtain ⟨za3, e2, h4⟩ := zrO_some h3
  obtain ⟨zc4, rfl, h5⟩ := zrA1_some h4
  obtain ⟨q1, rfl, h6⟩ := zrB_some h5
  obtain ⟨za5, e5, h7⟩ := zrO_some h6
  obtain ⟨zc6, rfl, h8⟩ := zrA1_some h7
  obtain ⟨q2, rfl, h9⟩ := zrD_some h8
  obtain ⟨za7, e6, h10⟩ := zrO_some h9
  obtain ⟨zc8, rfl, h11⟩ := zrA1_some h10
  obtain ⟨q3, rfl, h12⟩ := zrI_some h11
  obtain ⟨za9, e7, h13⟩ := zrO_some h12
  obtain ⟨zc10, rfl, h14⟩ := zrA1_some h13
  obtain ⟨q4, rfl, h15⟩ := zrI_some h14
  obtain ⟨rfl, h16⟩ := zrN_some h15
  have h := Option.some.inj h16
  have hu := congrArg Prod.fst h
  have hv := congrArg Prod.snd h
  dsimp only at hu hv
  subst hu
  subst hv
  exact ⟨rfl, (tm_fill (hj rfl) (Lv := [(0, .one (.d false false (.prod (.int .i64) (.int .i64)) q0)), (2, .one (.v false (.bool q1))), (5, .one (.d false false (.prod (.int .i64) (.int .i64)) q2)), (6, .one (.v false (.int .i64 q3))), (7, .one (.v false (.int .i64 q4)))]) (by kernel_rfl) ⟨e0, e2, e5, e6, e7, trivial⟩).trans (by kernel_rfl), rfl⟩
theorem va_read_ok (st : Stt) (u : va_U) (v : va_V) (h : va_read st = some (u, v)) : va_cok st = true ∧ staysA [] [] st.own = true ∧ va_can st = va_St u v := by
  obtain ⟨h1, h2, h3⟩ := va_rd_ok (fun hb => by rw [Bool.and_eq_true, Bool.and_eq_true] at hb; exact hb.2.2) h
  rw [Bool.and_eq_true, Bool.and_eq_true] at h1
  refine ⟨h1.1, h1.2.1, ?_⟩
  have e : va_can st = ⟨(va_can st).tm, (va_can st).own, 1004⟩ := by kernel_rfl
  rw [e, h2, h3]
  rfl
noncomputable def va_cond (u : va_U) (v : va_V) : Bool := runC (va_step u) v
noncomputable def va_g (u : va_U) (v : va_V) : Nat × va_V := runG (va_step u) v
theorem va_hg : ∀ (u : va_U) (v : va_V), va_cond u v = true → loopN (va_step u) ((fun u v => runF (va_step u) v) u v) v = some (va_g u v) := by
  exact fun u v h => run_hg h
noncomputable def va_m (st : Stt) : Option (Tr (Ex × Stt)) := sumM va_read va_cond va_St va_g [(0, .ret), (1, .exit 0)] st
noncomputable def rgA_L51 : FuncId → Loops := addL 96 [0, 1, 0, 1] va_m L0
set_option maxRecDepth 100000 in
set_option maxHeartbeats 4000000 in
theorem rgA_L51_ok : LoopsOK Try.prog rgA_L51 :=
  loop_sumF (body := (bodyOf Try.prog 96)) (c := (loopOf (bodyOf Try.prog 96) [1, 0, 1, 0])) (kinds := [.ret, .exit 0]) (allow := [(0, .ret), (1, .exit 0)]) (St := va_St) (step := va_step) (W := [1, 3, 4, 8, 9, 10, 11, 12, 13, 14, 15, 16, 17, 18, 19, 20, 21, 22, 23, 24, 25, 26, 27, 28, 29, 30, 31, 32, 33, 34, 35, 36, 37]) (As := []) (ks := []) (dd := []) (nx := 1004) (n := 100000) (g := va_g) (cond := va_cond) (fuel := (fun u v => runF (va_step u) v)) (read := va_read) (by kernel_rfl) (S0_ok _) (L0_ok _) 7 ⟨Try.f96, by kernel_rfl, by kernel_rfl⟩ (by kernel_rfl) (by kernel_rfl) (by kernel_rfl) va_step_eq va_hg va_read_ok
abbrev fi_U : Type := (Ty.list (.prod (.int .i64) (.int .i64))).den
noncomputable def fi_St (u : fi_U) (v : va_V) : Stt := ⟨[.one (.d false false (.prod (.int .i64) (.int .i64)) u), .one .junk, .one (.v false (.bool v.1)), .one (.v false (.int .i64 v.2)), .one .junk, .one .junk, .one .junk, .one .junk, .one .junk, .one .junk, .one .junk, .one .junk, .one .junk, .one .junk, .one .junk, .one .junk, .one .junk, .one .junk, .one .junk, .one .junk, .one .junk, .one .junk, .one .junk, .one .junk, .one .junk, .one .junk, .one .junk, .one .junk, .one .junk, .one .junk, .one .junk, .one .junk, .one .junk, .one .junk, .one .junk, .one .junk, .one .junk, .one .junk, .one .junk, .one .junk, .one .junk, .one .junk, .one .junk, .one .junk, .one .junk, .one .junk, .one .junk, .one .junk, .one .junk, .one .junk, .one .junk, .one .junk, .one .junk, .one .junk, .one .junk, .one .junk, .one .junk, .one .junk], [], 1002⟩
noncomputable def fi_step (u : fi_U) (v : va_V) : Tr (va_V ⊕ (Nat × va_V)) :=
  match u, v with
  | q0, (q1, q2) => .br (decide (q2 < (↑(List.length q0) : Int))) (.br (decide ((0 : Int) ≤ q2) && decide (q2 < (↑(List.length q0) : Int))) (.br ((bif decide (Prod.fst (el_ii q0 q2) < (-4096 : Int)) then true else ((decide ((0 : Int) ≤ q2) && decide (q2 < (↑(List.length q0) : Int))) && (decide ((0 : Int) ≤ q2) && decide (q2 < (↑(List.length q0) : Int)))))) (.br ((bif bif decide (Prod.fst (el_ii q0 q2) < (-4096 : Int)) then true else decide (Prod.fst (el_ii q0 q2) ≥ Prod.snd (el_ii q0 q2)) then true else (decide ((0 : Int) ≤ q2) && decide (q2 < (↑(List.length q0) : Int))))) (.br ((bif bif bif decide (Prod.fst (el_ii q0 q2) < (-4096 : Int)) then true else decide (Prod.fst (el_ii q0 q2) ≥ Prod.snd (el_ii q0 q2)) then true else decide (Prod.snd (el_ii q0 q2) > (4096 : Int)) then true else (bif decide (q2 > (0 : Int)) then ((decide ((0 : Int) ≤ q2) && decide (q2 < (↑(List.length q0) : Int))) && (decide ((0 : Int) ≤ IntKind.wrap .i64 (q2 - (1 : Int))) && decide (IntKind.wrap .i64 (q2 - (1 : Int)) < (↑(List.length q0) : Int)))) else true))) (.br (bif bif bif decide (Prod.fst (el_ii q0 q2) < (-4096 : Int)) then true else decide (Prod.fst (el_ii q0 q2) ≥ Prod.snd (el_ii q0 q2)) then true else decide (Prod.snd (el_ii q0 q2) > (4096 : Int)) then true else bif decide (q2 > (0 : Int)) then decide (Prod.fst (el_ii q0 q2) ≤ Prod.snd (el_ii q0 (IntKind.wrap .i64 (q2 - (1 : Int))))) else false) (.ret (.inr (0, (false, q2)))) (.ret (.inl (q1, IntKind.wrap .i64 (q2 + (1 : Int)))))) (.bad 117)) (.bad 117)) (.bad 117)) (.bad 29)) (.ret (.inr (1, (q1, q2))))
set_option maxRecDepth 100000 in
set_option maxHeartbeats 4000000 in
theorem fi_step_eq : ∀ (u : fi_U) (v : va_V), (evalC Try.prog (evalB Try.prog S0 (opens []) rgA_L51 7).1 (evalB Try.prog S0 (opens []) rgA_L51 7).2 (opens []) (rgA_L51 84) 100000 (0 :: [0, 1, 0, 1]) (loopOf (bodyOf Try.prog 84) [1, 0, 1, 0]) (fi_St u v) []).bind (finF [1, 4, 5, 6, 7, 8, 9, 10, 11, 12, 13, 14, 15, 16, 17, 18, 19, 20, 21, 22, 23, 24, 25, 26, 27, 28, 29, 30, 31, 32, 33, 34, 35, 36, 37, 38, 39, 40, 41, 42, 43, 44, 45, 46, 47, 48, 49, 50, 51, 52, 53, 54, 55, 56, 57] [] [] [] 1002) = (fi_step u v).bind (outA (fi_St u) [.ret, .exit 0]) := by
  rintro q0 ⟨q1, q2⟩
  kernel_rfl
noncomputable def fi_rd (b : Bool) (o0 : Option AV) (o2 : Option AV) (o3 : Option AV) (own : Own) : Option (fi_U × va_V) := zrT b <| zrO o0 fun za1 => zrA1 za1 fun zc2 => zrD (.prod (.int .i64) (.int .i64)) zc2 fun q0 => zrO o2 fun za3 => zrA1 za3 fun zc4 => zrB zc4 fun q1 => zrO o3 fun za5 => zrA1 za5 fun zc6 => zrI .i64 zc6 fun q2 => zrN own <| some (q0, (q1, q2))
noncomputable def fi_can (st : Stt) : Stt := canA [1, 4, 5, 6, 7, 8, 9, 10, 11, 12, 13, 14, 15, 16, 17, 18, 19, 20, 21, 22, 23, 24, 25, 26, 27, 28, 29, 30, 31, 32, 33, 34, 35, 36, 37, 38, 39, 40, 41, 42, 43, 44, 45, 46, 47, 48, 49, 50, 51, 52, 53, 54, 55, 56, 57] [] [] [] 1002 st
noncomputable def fi_cok (st : Stt) : Bool := canAok [1, 4, 5, 6, 7, 8, 9, 10, 11, 12, 13, 14, 15, 16, 17, 18, 19, 20, 21, 22, 23, 24, 25, 26, 27, 28, 29, 30, 31, 32, 33, 34, 35, 36, 37, 38, 39, 40, 41, 42, 43, 44, 45, 46, 47, 48, 49, 50, 51, 52, 53, 54, 55, 56, 57] [] [] [] 1002 st
noncomputable def fi_read (st : Stt) : Option (fi_U × va_V) := fi_rd (fi_cok st && (staysA [] [] st.own && juAll [1, 4, 5, 6, 7, 8, 9, 10, 11, 12, 13, 14, 15, 16, 17, 18, 19, 20, 21, 22, 23, 24, 25, 26, 27, 28, 29, 30, 31, 32, 33, 34, 35, 36, 37, 38, 39, 40, 41, 42, 43, 44, 45, 46, 47, 48, 49, 50, 51, 52, 53, 54, 55, 56, 57] (fi_can st).tm 58)) (fi_can st).tm[0]? (fi_can st).tm[2]? (fi_can st).tm[3]? (fi_can st).own
set_option maxRecDepth 100000 in
set_option maxHeartbeats 4000000 in
theorem fi_rd_ok {b : Bool} {tm : List AV} {own : Own} {u : fi_U} {v : va_V} (hj : b = true → juAll [1, 4, 5, 6, 7, 8, 9, 10, 11, 12, 13, 14, 15, 16, 17, 18, 19, 20, 21, 22, 23, 24, 25, 26, 27, 28, 29, 30, 31, 32, 33, 34, 35, 36, 37, 38, 39, 40, 41, 42, 43, 44, 45, 46, 47, 48, 49, 50, 51, 52, 53, 54, 55, 56, 57] tm 58 = true) (h : fi_rd b tm[0]? tm[2]? tm[3]? own = some (u, v)) : b = true ∧ tm = (fi_St u v).tm ∧ own = (fi_St u v).own := by
  unfold fi_rd at h
  obtain ⟨rfl, h0⟩ := zrT_some h
  obtain ⟨za1, e0, h1⟩ := zrO_some h0
  obtain ⟨zc2, rfl, h2⟩ := zrA1_some h1
  obtain ⟨q0, rfl, h3⟩ := zrD_some h2
  obtain ⟨za3, e2, h4⟩ := zrO_some h3
  obtain ⟨zc4, rfl, h5⟩ := zrA1_some h4
  obtain ⟨q1, rfl, h6⟩ := zrB_some h5
  obtain ⟨za5, e3, h7⟩ := zrO_some h6
  obtain ⟨zc6, rfl, h8⟩ := zrA1_some h7
  obtain ⟨q2, rfl, h9⟩ := zrI_some h8
  obtain ⟨rfl, h10⟩ := zrN_some h9
  have h := Option.some.inj h10
  have hu := congrArg Prod.fst h
  have hv := congrArg Prod.snd h
  dsimp only at hu hv
  subst hu
  subst hv
  exact ⟨rfl, (tm_fill (hj rfl) (Lv := [(0, .one (.d false false (.prod (.int .i64) (.int .i64)) q0)), (2, .one (.v false (.bool q1))), (3, .one (.v false (.int .i64 q2)))]) (by kernel_rfl) ⟨e0, e2, e3, trivial⟩).trans (by kernel_rfl), rfl⟩
theorem fi_read_ok (st : Stt) (u : fi_U) (v : va_V) (h : fi_read st = some (u, v)) : fi_cok st = true ∧ staysA [] [] st.own = true ∧ fi_can st = fi_St u v := by
  obtain ⟨h1, h2, h3⟩ := fi_rd_ok (fun hb => by rw [Bool.and_eq_true, Bool.and_eq_true] at hb; exact hb.2.2) h
  rw [Bool.and_eq_true, Bool.and_eq_true] at h1
  refine ⟨h1.1, h1.2.1, ?_⟩
  have e : fi_can st = ⟨(fi_can st).tm, (fi_can st).own, 1002⟩ := by kernel_rfl
  rw [e, h2, h3]
  rfl
noncomputable def fi_cond (u : fi_U) (v : va_V) : Bool := runC (fi_step u) v
noncomputable def fi_g (u : fi_U) (v : va_V) : Nat × va_V := runG (fi_step u) v
theorem fi_hg : ∀ (u : fi_U) (v : va_V), fi_cond u v = true → loopN (fi_step u) ((fun u v => runF (fi_step u) v) u v) v = some (fi_g u v) := by
  exact fun u v h => run_hg h
noncomputable def fi_m (st : Stt) : Option (Tr (Ex × Stt)) := sumM fi_read fi_cond fi_St fi_g [(0, .ret), (1, .exit 0)] st
noncomputable def rgA_L52 : FuncId → Loops := addL 84 [0, 1, 0, 1] fi_m rgA_L51
set_option maxRecDepth 100000 in
set_option maxHeartbeats 4000000 in
theorem rgA_L52_ok : LoopsOK Try.prog rgA_L52 :=
  loop_sumF (body := (bodyOf Try.prog 84)) (c := (loopOf (bodyOf Try.prog 84) [1, 0, 1, 0])) (kinds := [.ret, .exit 0]) (allow := [(0, .ret), (1, .exit 0)]) (St := fi_St) (step := fi_step) (W := [1, 4, 5, 6, 7, 8, 9, 10, 11, 12, 13, 14, 15, 16, 17, 18, 19, 20, 21, 22, 23, 24, 25, 26, 27, 28, 29, 30, 31, 32, 33, 34, 35, 36, 37, 38, 39, 40, 41, 42, 43, 44, 45, 46, 47, 48, 49, 50, 51, 52, 53, 54, 55, 56, 57]) (As := []) (ks := []) (dd := []) (nx := 1002) (n := 100000) (g := fi_g) (cond := fi_cond) (fuel := (fun u v => runF (fi_step u) v)) (read := fi_read) (by kernel_rfl) (S0_ok _) (rgA_L51_ok) 7 ⟨Try.f84, by kernel_rfl, by kernel_rfl⟩ (by kernel_rfl) (by kernel_rfl) (by kernel_rfl) fi_step_eq fi_hg fi_read_ok
abbrev inn_U : Type := (Ty.list (.prod (.int .i64) (.int .i64))).den × Int
noncomputable def inn_St (u : inn_U) (v : va_V) : Stt := ⟨[.one (.d false false (.prod (.int .i64) (.int .i64)) u.1), .one (.v false (.int .i64 u.2)), .one .junk, .one .junk, .one (.v false (.bool v.1)), .one (.v false (.int .i64 v.2)), .one .junk, .one .junk, .one .junk, .one .junk, .one .junk, .one .junk, .one .junk, .one .junk, .one .junk, .one .junk, .one .junk, .one .junk, .one .junk, .one .junk, .one .junk, .one .junk, .one .junk, .one .junk, .one .junk, .one .junk, .one .junk, .one .junk], [], 1002⟩
noncomputable def inn_step (u : inn_U) (v : va_V) : Tr (va_V ⊕ (Nat × va_V)) :=
  match u, v with
  | (q0, q1), (q2, q3) => .br (decide (q3 < (↑(List.length q0) : Int))) (.br (decide ((0 : Int) ≤ q3) && decide (q3 < (↑(List.length q0) : Int))) (.br ((bif decide (Prod.fst (el_ii q0 q3) ≤ q1) then (decide ((0 : Int) ≤ q3) && decide (q3 < (↑(List.length q0) : Int))) else true)) (.br (bif decide (Prod.fst (el_ii q0 q3) ≤ q1) then decide (q1 < Prod.snd (el_ii q0 q3)) else false) (.ret (.inr (0, (true, q3)))) (.ret (.inl (q2, IntKind.wrap .i64 (q3 + (1 : Int)))))) (.bad 117)) (.bad 29)) (.ret (.inr (1, (q2, q3))))
set_option maxRecDepth 100000 in
set_option maxHeartbeats 4000000 in
theorem inn_step_eq : ∀ (u : inn_U) (v : va_V), (evalC Try.prog (evalB Try.prog S0 (opens []) rgA_L52 7).1 (evalB Try.prog S0 (opens []) rgA_L52 7).2 (opens []) (rgA_L52 67) 100000 (0 :: [0, 1, 0, 1]) (loopOf (bodyOf Try.prog 67) [1, 0, 1, 0]) (inn_St u v) []).bind (finF [2, 3, 6, 7, 8, 9, 10, 11, 12, 13, 14, 15, 16, 17, 18, 19, 20, 21, 22, 23, 24, 25, 26, 27] [] [] [] 1002) = (inn_step u v).bind (outA (inn_St u) [.ret, .exit 0]) := by
  rintro ⟨q0, q1⟩ ⟨q2, q3⟩
  kernel_rfl
noncomputable def inn_rd (b : Bool) (o0 : Option AV) (o1 : Option AV) (o4 : Option AV) (o5 : Option AV) (own : Own) : Option (inn_U × va_V) := zrT b <| zrO o0 fun za1 => zrA1 za1 fun zc2 => zrD (.prod (.int .i64) (.int .i64)) zc2 fun q0 => zrO o1 fun za3 => zrA1 za3 fun zc4 => zrI .i64 zc4 fun q1 => zrO o4 fun za5 => zrA1 za5 fun zc6 => zrB zc6 fun q2 => zrO o5 fun za7 => zrA1 za7 fun zc8 => zrI .i64 zc8 fun q3 => zrN own <| some ((q0, q1), (q2, q3))
noncomputable def inn_can (st : Stt) : Stt := canA [2, 3, 6, 7, 8, 9, 10, 11, 12, 13, 14, 15, 16, 17, 18, 19, 20, 21, 22, 23, 24, 25, 26, 27] [] [] [] 1002 st
noncomputable def inn_cok (st : Stt) : Bool := canAok [2, 3, 6, 7, 8, 9, 10, 11, 12, 13, 14, 15, 16, 17, 18, 19, 20, 21, 22, 23, 24, 25, 26, 27] [] [] [] 1002 st
noncomputable def inn_read (st : Stt) : Option (inn_U × va_V) := inn_rd (inn_cok st && (staysA [] [] st.own && juAll [2, 3, 6, 7, 8, 9, 10, 11, 12, 13, 14, 15, 16, 17, 18, 19, 20, 21, 22, 23, 24, 25, 26, 27] (inn_can st).tm 28)) (inn_can st).tm[0]? (inn_can st).tm[1]? (inn_can st).tm[4]? (inn_can st).tm[5]? (inn_can st).own
set_option maxRecDepth 100000 in
set_option maxHeartbeats 4000000 in
theorem inn_rd_ok {b : Bool} {tm : List AV} {own : Own} {u : inn_U} {v : va_V} (hj : b = true → juAll [2, 3, 6, 7, 8, 9, 10, 11, 12, 13, 14, 15, 16, 17, 18, 19, 20, 21, 22, 23, 24, 25, 26, 27] tm 28 = true) (h : inn_rd b tm[0]? tm[1]? tm[4]? tm[5]? own = some (u, v)) : b = true ∧ tm = (inn_St u v).tm ∧ own = (inn_St u v).own := by
  unfold inn_rd at h
  obtain ⟨rfl, h0⟩ := zrT_some h
  obtain ⟨za1, e0, h1⟩ := zrO_some h0
  obtain ⟨zc2, rfl, h2⟩ := zrA1_some h1
  obtain ⟨q0, rfl, h3⟩ := zrD_some h2
  obtain ⟨za3, e1, h4⟩ := zrO_some h3
  obtain ⟨zc4, rfl, h5⟩ := zrA1_some h4
  obtain ⟨q1, rfl, h6⟩ := zrI_some h5
  obtain ⟨za5, e4, h7⟩ := zrO_some h6
  obtain ⟨zc6, rfl, h8⟩ := zrA1_some h7
  obtain ⟨q2, rfl, h9⟩ := zrB_some h8
  obtain ⟨za7, e5, h10⟩ := zrO_some h9
  obtain ⟨zc8, rfl, h11⟩ := zrA1_some h10
  obtain ⟨q3, rfl, h12⟩ := zrI_some h11
  obtain ⟨rfl, h13⟩ := zrN_some h12
  have h := Option.some.inj h13
  have hu := congrArg Prod.fst h
  have hv := congrArg Prod.snd h
  dsimp only at hu hv
  subst hu
  subst hv
  exact ⟨rfl, (tm_fill (hj rfl) (Lv := [(0, .one (.d false false (.prod (.int .i64) (.int .i64)) q0)), (1, .one (.v false (.int .i64 q1))), (4, .one (.v false (.bool q2))), (5, .one (.v false (.int .i64 q3)))]) (by kernel_rfl) ⟨e0, e1, e4, e5, trivial⟩).trans (by kernel_rfl), rfl⟩
theorem inn_read_ok (st : Stt) (u : inn_U) (v : va_V) (h : inn_read st = some (u, v)) : inn_cok st = true ∧ staysA [] [] st.own = true ∧ inn_can st = inn_St u v := by
  obtain ⟨h1, h2, h3⟩ := inn_rd_ok (fun hb => by rw [Bool.and_eq_true, Bool.and_eq_true] at hb; exact hb.2.2) h
  rw [Bool.and_eq_true, Bool.and_eq_true] at h1
  refine ⟨h1.1, h1.2.1, ?_⟩
  have e : inn_can st = ⟨(inn_can st).tm, (inn_can st).own, 1002⟩ := by kernel_rfl
  rw [e, h2, h3]
  rfl
noncomputable def inn_cond (u : inn_U) (v : va_V) : Bool := runC (inn_step u) v
noncomputable def inn_g (u : inn_U) (v : va_V) : Nat × va_V := runG (inn_step u) v
theorem inn_hg : ∀ (u : inn_U) (v : va_V), inn_cond u v = true → loopN (inn_step u) ((fun u v => runF (inn_step u) v) u v) v = some (inn_g u v) := by
  exact fun u v h => run_hg h
noncomputable def inn_m (st : Stt) : Option (Tr (Ex × Stt)) := sumM inn_read inn_cond inn_St inn_g [(0, .ret), (1, .exit 0)] st
noncomputable def rgA_L53 : FuncId → Loops := addL 67 [0, 1, 0, 1] inn_m rgA_L52
set_option maxRecDepth 100000 in
set_option maxHeartbeats 4000000 in
theorem rgA_L53_ok : LoopsOK Try.prog rgA_L53 :=
  loop_sumF (body := (bodyOf Try.prog 67)) (c := (loopOf (bodyOf Try.prog 67) [1, 0, 1, 0])) (kinds := [.ret, .exit 0]) (allow := [(0, .ret), (1, .exit 0)]) (St := inn_St) (step := inn_step) (W := [2, 3, 6, 7, 8, 9, 10, 11, 12, 13, 14, 15, 16, 17, 18, 19, 20, 21, 22, 23, 24, 25, 26, 27]) (As := []) (ks := []) (dd := []) (nx := 1002) (n := 100000) (g := inn_g) (cond := inn_cond) (fuel := (fun u v => runF (inn_step u) v)) (read := inn_read) (by kernel_rfl) (S0_ok _) (rgA_L52_ok) 7 ⟨Try.f67, by kernel_rfl, by kernel_rfl⟩ (by kernel_rfl) (by kernel_rfl) (by kernel_rfl) inn_step_eq inn_hg inn_read_ok
abbrev lna_U : Type := Int × (Ty.list (.prod (.int .i64) (.int .i64))).den × Int
abbrev lna_V : Type := Int × Int
noncomputable def lna_St (u : lna_U) (v : lna_V) : Stt := ⟨[.one .junk, .one .junk, .one (.v false (.int .i64 u.1)), .one (.v false (.int .i64 v.1)), .one .junk, .one .junk, .one .junk, .one .junk, .one .junk, .one (.d false false (.prod (.int .i64) (.int .i64)) u.2.1), .one (.v false (.int .i64 u.2.2)), .one (.v false (.int .i64 v.2)), .one .junk, .one .junk, .one .junk, .one .junk, .one .junk, .one .junk, .one .junk, .one .junk, .one .junk, .one .junk, .one .junk, .one .junk], [], 1008⟩
noncomputable def lna_step (u : lna_U) (v : lna_V) : Tr (lna_V ⊕ (Nat × lna_V)) :=
  match u, v with
  | (_, q2, q3), (q1, q4) => .br (decide (q4 < q3)) (.br (decide ((0 : Int) ≤ q4) && decide (q4 < (↑(List.length q2) : Int))) (.ret (.inl (IntKind.wrap .i64 (q1 + IntKind.wrap .i64 (Prod.snd (el_ii q2 q4) - Prod.fst (el_ii q2 q4))), IntKind.wrap .i64 (q4 + (1 : Int))))) (.bad 29)) (.ret (.inr (0, (q1, q4))))
set_option maxRecDepth 100000 in
set_option maxHeartbeats 4000000 in
theorem lna_step_eq : ∀ (u : lna_U) (v : lna_V), (evalC Try.prog (evalB Try.prog S0 (opens []) rgA_L53 7).1 (evalB Try.prog S0 (opens []) rgA_L53 7).2 (opens []) (rgA_L53 75) 100000 (0 :: [0, 1, 0, 1, 1, 1]) (loopOf (bodyOf Try.prog 75) [1, 1, 1, 0, 1, 0]) (lna_St u v) []).bind (finF [0, 1, 4, 5, 6, 7, 8, 12, 13, 14, 15, 16, 17, 18, 19, 20, 21, 22, 23] [] [] [] 1008) = (lna_step u v).bind (outA (lna_St u) [.exit 0]) := by
  rintro ⟨q0, q2, q3⟩ ⟨q1, q4⟩
  kernel_rfl
noncomputable def lna_rd (b : Bool) (o2 : Option AV) (o3 : Option AV) (o9 : Option AV) (o10 : Option AV) (o11 : Option AV) (own : Own) : Option (lna_U × lna_V) := zrT b <| zrO o2 fun za1 => zrA1 za1 fun zc2 => zrI .i64 zc2 fun q0 => zrO o3 fun za3 => zrA1 za3 fun zc4 => zrI .i64 zc4 fun q1 => zrO o9 fun za5 => zrA1 za5 fun zc6 => zrD (.prod (.int .i64) (.int .i64)) zc6 fun q2 => zrO o10 fun za7 => zrA1 za7 fun zc8 => zrI .i64 zc8 fun q3 => zrO o11 fun za9 => zrA1 za9 fun zc10 => zrI .i64 zc10 fun q4 => zrN own <| some ((q0, q2, q3), (q1, q4))
noncomputable def lna_can (st : Stt) : Stt := canA [0, 1, 4, 5, 6, 7, 8, 12, 13, 14, 15, 16, 17, 18, 19, 20, 21, 22, 23] [] [] [] 1008 st
noncomputable def lna_cok (st : Stt) : Bool := canAok [0, 1, 4, 5, 6, 7, 8, 12, 13, 14, 15, 16, 17, 18, 19, 20, 21, 22, 23] [] [] [] 1008 st
noncomputable def lna_read (st : Stt) : Option (lna_U × lna_V) := lna_rd (lna_cok st && (staysA [] [] st.own && juAll [0, 1, 4, 5, 6, 7, 8, 12, 13, 14, 15, 16, 17, 18, 19, 20, 21, 22, 23] (lna_can st).tm 24)) (lna_can st).tm[2]? (lna_can st).tm[3]? (lna_can st).tm[9]? (lna_can st).tm[10]? (lna_can st).tm[11]? (lna_can st).own
set_option maxRecDepth 100000 in
set_option maxHeartbeats 4000000 in
theorem lna_rd_ok {b : Bool} {tm : List AV} {own : Own} {u : lna_U} {v : lna_V} (hj : b = true → juAll [0, 1, 4, 5, 6, 7, 8, 12, 13, 14, 15, 16, 17, 18, 19, 20, 21, 22, 23] tm 24 = true) (h : lna_rd b tm[2]? tm[3]? tm[9]? tm[10]? tm[11]? own = some (u, v)) : b = true ∧ tm = (lna_St u v).tm ∧ own = (lna_St u v).own := by
  unfold lna_rd at h
  obtain ⟨rfl, h0⟩ := zrT_some h
  obtain ⟨za1, e2, h1⟩ := zrO_some h0
  obtain ⟨zc2, rfl, h2⟩ := zrA1_some h1
  obtain ⟨q0, rfl, h3⟩ := zrI_some h2
  obtain ⟨za3, e3, h4⟩ := zrO_some h3
  obtain ⟨zc4, rfl, h5⟩ := zrA1_some h4
  obtain ⟨q1, rfl, h6⟩ := zrI_some h5
  obtain ⟨za5, e9, h7⟩ := zrO_some h6
  obtain ⟨zc6, rfl, h8⟩ := zrA1_some h7
  obtain ⟨q2, rfl, h9⟩ := zrD_some h8
  obtain ⟨za7, e10, h10⟩ := zrO_some h9
  obtain ⟨zc8, rfl, h11⟩ := zrA1_some h10
  obtain ⟨q3, rfl, h12⟩ := zrI_some h11
  obtain ⟨za9, e11, h13⟩ := zrO_some h12
  obtain ⟨zc10, rfl, h14⟩ := zrA1_some h13
  obtain ⟨q4, rfl, h15⟩ := zrI_some h14
  obtain ⟨rfl, h16⟩ := zrN_some h15
  have h := Option.some.inj h16
  have hu := congrArg Prod.fst h
  have hv := congrArg Prod.snd h
  dsimp only at hu hv
  subst hu
  subst hv
  exact ⟨rfl, (tm_fill (hj rfl) (Lv := [(2, .one (.v false (.int .i64 q0))), (3, .one (.v false (.int .i64 q1))), (9, .one (.d false false (.prod (.int .i64) (.int .i64)) q2)), (10, .one (.v false (.int .i64 q3))), (11, .one (.v false (.int .i64 q4)))]) (by kernel_rfl) ⟨e2, e3, e9, e10, e11, trivial⟩).trans (by kernel_rfl), rfl⟩
theorem lna_read_ok (st : Stt) (u : lna_U) (v : lna_V) (h : lna_read st = some (u, v)) : lna_cok st = true ∧ staysA [] [] st.own = true ∧ lna_can st = lna_St u v := by
  obtain ⟨h1, h2, h3⟩ := lna_rd_ok (fun hb => by rw [Bool.and_eq_true, Bool.and_eq_true] at hb; exact hb.2.2) h
  rw [Bool.and_eq_true, Bool.and_eq_true] at h1
  refine ⟨h1.1, h1.2.1, ?_⟩
  have e : lna_can st = ⟨(lna_can st).tm, (lna_can st).own, 1008⟩ := by kernel_rfl
  rw [e, h2, h3]
  rfl
noncomputable def lna_cond (u : lna_U) (v : lna_V) : Bool := runC (lna_step u) v
noncomputable def lna_g (u : lna_U) (v : lna_V) : Nat × lna_V := runG (lna_step u) v
theorem lna_hg : ∀ (u : lna_U) (v : lna_V), lna_cond u v = true → loopN (lna_step u) ((fun u v => runF (lna_step u) v) u v) v = some (lna_g u v) := by
  exact fun u v h => run_hg h
noncomputable def lna_m (st : Stt) : Option (Tr (Ex × Stt)) := sumM lna_read lna_cond lna_St lna_g [(0, .exit 0)] st
noncomputable def rgA_L54 : FuncId → Loops := addL 75 [0, 1, 0, 1, 1, 1] lna_m rgA_L53
set_option maxRecDepth 100000 in
set_option maxHeartbeats 4000000 in
theorem rgA_L54_ok : LoopsOK Try.prog rgA_L54 :=
  loop_sumF (body := (bodyOf Try.prog 75)) (c := (loopOf (bodyOf Try.prog 75) [1, 1, 1, 0, 1, 0])) (kinds := [.exit 0]) (allow := [(0, .exit 0)]) (St := lna_St) (step := lna_step) (W := [0, 1, 4, 5, 6, 7, 8, 12, 13, 14, 15, 16, 17, 18, 19, 20, 21, 22, 23]) (As := []) (ks := []) (dd := []) (nx := 1008) (n := 100000) (g := lna_g) (cond := lna_cond) (fuel := (fun u v => runF (lna_step u) v)) (read := lna_read) (by kernel_rfl) (S0_ok _) (rgA_L53_ok) 7 ⟨Try.f75, by kernel_rfl, by kernel_rfl⟩ (by kernel_rfl) (by kernel_rfl) (by kernel_rfl) lna_step_eq lna_hg lna_read_ok
noncomputable def lenV (L : Rl) : Int := bif valB L then lenR L else 0
theorem el_r {L : Rl} {i : Nat} (h : i < L.length) : el_ii L (i : Int) = L[i] := elm_lt (t := .prod (.int .i64) (.int .i64)) h
def bdA (L : Rl) (i : Nat) : Bool := bif bif decide (Prod.fst (el_ii L (i : Int)) ≥ Prod.snd (el_ii L (i : Int))) then true else !bif decide (Prod.fst (el_ii L (i : Int)) ≥ (-1048576 : Int)) then decide (Prod.snd (el_ii L (i : Int)) ≤ (1048576 : Int)) else false then true else bif decide ((i : Int) > (0 : Int)) then decide (Prod.fst (el_ii L (i : Int)) ≤ Prod.snd (el_ii L (IntKind.wrap .i64 ((i : Int) - (1 : Int))))) else false
def bdB (L : Rl) (i : Nat) : Bool := bif bif bif decide (Prod.fst (el_ii L (i : Int)) ≥ Prod.snd (el_ii L (i : Int))) then true else !bif decide (Prod.fst (el_ii L (i : Int)) ≥ (-1048576 : Int)) then decide (Prod.fst (el_ii L (i : Int)) ≤ (1048576 : Int)) else false then true else !bif decide (Prod.snd (el_ii L (i : Int)) ≥ (-1048576 : Int)) then decide (Prod.snd (el_ii L (i : Int)) ≤ (1048576 : Int)) else false then true else bif decide ((i : Int) > (0 : Int)) then decide (Prod.fst (el_ii L (i : Int)) ≤ Prod.snd (el_ii L (IntKind.wrap .i64 ((i : Int) - (1 : Int))))) else false
theorem pre_in {L : Rl} {i : Nat} (h : i < L.length) (hn : (L.length : Int) ≤ 9223372036854775807) : (bif decide ((i : Int) > (0 : Int)) then (decide ((0 : Int) ≤ IntKind.wrap .i64 ((i : Int) - (1 : Int))) && decide (IntKind.wrap .i64 ((i : Int) - (1 : Int)) < (L.length : Int))) else true) = true ∧ (0 < i → el_ii L (IntKind.wrap .i64 ((i : Int) - (1 : Int))) = L[i - 1]) := by
  cases i with
  | zero => exact ⟨rfl, fun h => absurd h (Nat.lt_irrefl _)⟩
  | succ i =>
    have e : IntKind.wrap .i64 (((i + 1 : Nat) : Int) - (1 : Int)) = (i : Int) := by rw [wid (by omega) (by omega)]; omega
    rw [e]
    refine ⟨?_, fun _ => el_r (by omega)⟩
    rw [decide_eq_true (show ((i + 1 : Nat) : Int) > 0 by omega), decide_eq_true (show (0 : Int) ≤ (i : Int) by omega), decide_eq_true (show (i : Int) < (L.length : Int) by omega)]
    rfl
theorem bd_iff (f : Rl → Nat → Bool) (hf : f = bdA ∨ f = bdB) {L : Rl} (hn : (L.length : Int) ≤ 9223372036854775807) : (∀ i, i < L.length → (!f L i) = true) ↔ valR L := by
  rw [valR_good]
  have one : ∀ i (h : i < L.length), (!f L i) = true ↔ good (-1048577) L i h := fun i h => by
    have e := el_r h
    unfold good
    by_cases h0 : 0 < i
    · have e2 := (pre_in h hn).2 h0
      have d : decide ((i : Int) > (0 : Int)) = true := decide_eq_true (by omega)
      rcases hf with rfl | rfl
      · unfold bdA
        rw [e, e2, d]
        simp [Bool.cond_eq_ite]
        constructor
        · intro h; exact ⟨by omega, by omega, by omega, fun _ => by omega⟩
        · intro ⟨a, b, c, d⟩; have := d h0; omega
      · unfold bdB
        rw [e, e2, d]
        simp [Bool.cond_eq_ite]
        constructor
        · intro h; exact ⟨by omega, by omega, by omega, fun _ => by omega⟩
        · intro ⟨a, b, c, d⟩; have := d h0; omega
    · have d : decide ((i : Int) > (0 : Int)) = false := decide_eq_false (by omega)
      rcases hf with rfl | rfl
      · unfold bdA
        rw [e, d]
        simp [Bool.cond_eq_ite]
        first
          | (intro h1; exact ⟨fun h => ⟨by omega, by omega, fun g => absurd g h0⟩, fun ⟨a, b, c⟩ => by omega⟩)
          | (constructor
             · intro h; exact ⟨by omega, by omega, by omega, fun g => absurd g h0⟩
             · intro ⟨a, b, c, d⟩; omega)
      · unfold bdB
        rw [e, d]
        simp [Bool.cond_eq_ite]
        first
          | (intro h1; exact ⟨fun h => ⟨by omega, by omega, fun g => absurd g h0⟩, fun ⟨a, b, c⟩ => by omega⟩)
          | (constructor
             · intro h; exact ⟨by omega, by omega, by omega, fun g => absurd g h0⟩
             · intro ⟨a, b, c, d⟩; omega)
  exact ⟨fun h i hi => (one i hi).1 (h i hi), fun h i hi => (one i hi).2 (h i hi)⟩
theorem va_run {L : Rl} (hn : (L.length : Int) ≤ 9223372036854775807) : va_cond (L, L, (L.length : Int)) (false, 0) = true ∧ ((valR L ∧ va_g (L, L, (L.length : Int)) (false, 0) = (1, (false, (L.length : Int)))) ∨ (¬ valR L ∧ ∃ j : Nat, va_g (L, L, (L.length : Int)) (false, 0) = (0, (false, (j : Int))))) := by
  obtain ⟨h1, h2⟩ := run_scan (step := va_step (L, L, (L.length : Int))) (St := fun i => (false, (i : Int))) (Lv := fun i => (0, (false, (i : Int)))) (t := (1, (false, (L.length : Int)))) (n := L.length) (p := fun i => !bdA L i) (fun i hi => by
    have c5 := (pre_in hi hn).1
    simp only [va_step, Tr.val, lt_t hi, nn_t, c5, wi2 hi (show (L.length : Int) ≤ 9223372036854775807 by omega), Bool.and_self, Bool.cond_self, cond_true]
    unfold bdA
    generalize (bif bif decide (Prod.fst (el_ii L (i : Int)) ≥ Prod.snd (el_ii L (i : Int))) then true else _ then true else _ : Bool) = b
    cases b <;> rfl) (by simp only [va_step, Tr.val, Int.lt_irrefl, decide_false, cond_false])
  refine ⟨h1, ?_⟩
  rcases h2 with ⟨h, h3⟩ | ⟨j, hj, hp, _, h4⟩
  · exact .inl ⟨(bd_iff bdA (.inl rfl) hn).1 h, h3⟩
  · refine .inr ⟨fun hv => ?_, j, h4⟩
    have := (bd_iff bdA (.inl rfl) hn).2 hv j hj
    rw [this] at hp; cases hp
theorem valB_t {L : Rl} (h : valR L) : valB L = true := valB_iff.2 h
theorem valB_f {L : Rl} (h : ¬ valR L) : valB L = false := by rw [← Bool.not_eq_true]; exact fun e => h (valB_iff.1 e)
def bdF (L : Rl) (i : Nat) : Bool := bif bif bif decide (Prod.fst (el_ii L (i : Int)) < (-4096 : Int)) then true else decide (Prod.fst (el_ii L (i : Int)) ≥ Prod.snd (el_ii L (i : Int))) then true else decide (Prod.snd (el_ii L (i : Int)) > (4096 : Int)) then true else bif decide ((i : Int) > (0 : Int)) then decide (Prod.fst (el_ii L (i : Int)) ≤ Prod.snd (el_ii L (IntKind.wrap .i64 ((i : Int) - (1 : Int))))) else false
theorem bdF_iff {L : Rl} (hn : (L.length : Int) ≤ 9223372036854775807) : (∀ i, i < L.length → (!bdF L i) = true) ↔ (Nr (-4097) L ∧ endR (-4097) L ≤ 4096) := by
  rw [fine_good]
  have one : ∀ i (h : i < L.length), (!bdF L i) = true ↔ (good (-4097) L i h ∧ L[i].2 ≤ 4096) := fun i h => by
    have e := el_r h
    unfold good bdF
    by_cases h0 : 0 < i
    · have e2 := (pre_in h hn).2 h0
      have d : decide ((i : Int) > (0 : Int)) = true := decide_eq_true (by omega)
      rw [e, e2, d]
      simp [Bool.cond_eq_ite]
      constructor
      · intro h; exact ⟨⟨by omega, by omega, by omega, fun _ => by omega⟩, by omega⟩
      · intro ⟨⟨a, b, c, d⟩, f⟩; have := d h0; omega
    · have d : decide ((i : Int) > (0 : Int)) = false := decide_eq_false (by omega)
      rw [e, d]
      simp [Bool.cond_eq_ite]
      intro h5
      constructor
      · intro h; exact ⟨by omega, by omega, by omega, fun g => absurd g h0⟩
      · intro ⟨a, b, c, d⟩; omega
  exact ⟨fun h i hi => (one i hi).1 (h i hi), fun h i hi => (one i hi).2 (h i hi)⟩
theorem fi_run {L : Rl} (hn : (L.length : Int) ≤ 9223372036854775807) : fi_cond L (false, 0) = true ∧ (((Nr (-4097) L ∧ endR (-4097) L ≤ 4096) ∧ fi_g L (false, 0) = (1, (false, (L.length : Int)))) ∨ (fineB L = false ∧ ∃ j : Nat, fi_g L (false, 0) = (0, (false, (j : Int))))) := by
  obtain ⟨h1, h2⟩ := run_scan (step := fi_step L) (St := fun i => (false, (i : Int))) (Lv := fun i => (0, (false, (i : Int)))) (t := (1, (false, (L.length : Int)))) (n := L.length) (p := fun i => !bdF L i) (fun i hi => by
    have c5 := (pre_in hi hn).1
    simp only [fi_step, Tr.val, lt_t hi, nn_t, c5, wi2 hi (show (L.length : Int) ≤ 9223372036854775807 by omega), Bool.and_self, Bool.true_and, Bool.cond_self, cond_true]
    unfold bdF
    generalize (bif bif bif decide (Prod.fst (el_ii L (i : Int)) < (-4096 : Int)) then true else _ then true else _ then true else _ : Bool) = b
    cases b <;> rfl) (by simp only [fi_step, Tr.val, Int.lt_irrefl, decide_false, cond_false])
  refine ⟨h1, ?_⟩
  rcases h2 with ⟨h, h3⟩ | ⟨j, hj, hp, _, h4⟩
  · exact .inl ⟨(bdF_iff hn).1 h, h3⟩
  · refine .inr ⟨?_, j, h4⟩
    rw [← Bool.not_eq_true, fineB_iff]
    rintro ⟨_, hv⟩
    have := (bdF_iff hn).2 hv j hj
    rw [this] at hp; cases hp
theorem fine_len {L : Rl} (h : Nr (-4097) L ∧ endR (-4097) L ≤ 4096) : decide ((L.length : Int) > (0 : Int)) = fineB L := by
  rw [Bool.eq_iff_iff, fineB_iff, decide_eq_true_eq]
  unfold fineR
  constructor
  · intro g; exact ⟨fun e => by subst e; simp at g, h⟩
  · intro g
    have : L.length ≠ 0 := fun e => g.1 (List.length_eq_zero_iff.1 e)
    omega
theorem lna_run {L : Rl} (h : valR L) (hn : L.length ≤ 100000) : lna_cond (0, L, (L.length : Int)) (0, 0) = true ∧ lna_g (0, L, (L.length : Int)) (0, 0) = (0, (lenR L, (L.length : Int))) := by
  have R := run_steps (step := lna_step (0, L, (L.length : Int))) (St := fun j => (lenR (L.take j), (j : Int))) (n := L.length) (t := (0, (lenR L, (L.length : Int)))) (by
    simp only [lna_step, Tr.val, Int.lt_irrefl, decide_false, cond_false, List.take_length]) L.length 0 (Nat.zero_add _) (fun j _ hj => by
    have g := good_in h hj
    have b := lenR_bd h j (by omega)
    have w2 : IntKind.wrap .i64 (L[j].2 - L[j].1) = L[j].2 - L[j].1 := wid (by omega) (by omega)
    have w3 : IntKind.wrap .i64 (lenR (L.take j) + (L[j].2 - L[j].1)) = lenR (L.take j) + (L[j].2 - L[j].1) := wid (by omega) (by omega)
    rw [lenR_take hj]
    simp only [lna_step, Tr.val, lt_t hj, nn_t, el_r hj, w2, w3, wi1 hj (show (L.length : Int) ≤ 9223372036854775806 by omega), Bool.and_self, cond_true])
  exact R
theorem inn_run {L : Rl} {x : Int} (hn : L.length ≤ 100000) : inn_cond (L, x) (false, 0) = true ∧ ((memB L x = false ∧ inn_g (L, x) (false, 0) = (1, (false, (L.length : Int)))) ∨ (memB L x = true ∧ ∃ j : Nat, inn_g (L, x) (false, 0) = (0, (true, (j : Int))))) := by
  obtain ⟨h1, h2⟩ := run_all (step := inn_step (L, x)) (St := fun i => (false, (i : Int))) (Lv := fun i => (0, (true, (i : Int)))) (t := (1, (false, (L.length : Int)))) (l := L) (p := fun r => !(bif decide (r.1 ≤ x) then decide (x < r.2) else false)) (fun i hi => by
    simp only [inn_step, Tr.val, lt_t hi, nn_t, el_r hi, wi1 hi (show (L.length : Int) ≤ 9223372036854775806 by omega), Bool.and_self, Bool.cond_self, cond_true]
    cases (bif decide (L[i].1 ≤ x) then decide (x < L[i].2) else false) <;> rfl) (by simp only [inn_step, Tr.val, Int.lt_irrefl, decide_false, cond_false])
  refine ⟨h1, ?_⟩
  rw [memB_of _ rfl] at h2
  rcases h2 with ⟨h, h3⟩ | ⟨h, j, _, _, _, h4⟩
  · exact .inl ⟨by simpa using h, h3⟩
  · exact .inr ⟨by simpa using h, j, h4⟩
set_option maxRecDepth 100000 in
theorem vac_tree (L : (Ty.list (.prod (.int .i64) (.int .i64))).den) : evalF Try.prog S0 (opens []) rgA_L54 9 96 [.one (.d false false (.prod (.int .i64) (.int .i64)) L)] = .br (((va_cond (L, L, (↑(List.length L) : Int)) (false, (0 : Int))) && (bif Nat.beq (Prod.fst (va_g (L, L, (↑(List.length L) : Int)) (false, (0 : Int)))) (0 : Nat) then true else (Nat.beq (Prod.fst (va_g (L, L, (↑(List.length L) : Int)) (false, (0 : Int)))) (1 : Nat))))) (.ret (.one (.v false (.bool (bif Nat.beq (Prod.fst (va_g (L, L, (↑(List.length L) : Int)) (false, (0 : Int)))) (0 : Nat) then Prod.fst (Prod.snd (va_g (L, L, (↑(List.length L) : Int)) (false, (0 : Int)))) else true))))) (.bad 116) := by kernel_rfl
theorem vac_val (L : (Ty.list (.prod (.int .i64) (.int .i64))).den) (hc : (decide ((L.length : Int) ≤ 9223372036854775807)) = true) : (.br (((va_cond (L, L, (↑(List.length L) : Int)) (false, (0 : Int))) && (bif Nat.beq (Prod.fst (va_g (L, L, (↑(List.length L) : Int)) (false, (0 : Int)))) (0 : Nat) then true else (Nat.beq (Prod.fst (va_g (L, L, (↑(List.length L) : Int)) (false, (0 : Int)))) (1 : Nat))))) (.ret (.one (.v false (.bool (bif Nat.beq (Prod.fst (va_g (L, L, (↑(List.length L) : Int)) (false, (0 : Int)))) (0 : Nat) then Prod.fst (Prod.snd (va_g (L, L, (↑(List.length L) : Int)) (false, (0 : Int)))) else true))))) (.bad 116) : Tr AV).val = some (.one (.v false (.bool (valB L)))) := by
  have hn := of_decide_eq_true hc
  obtain ⟨v1, v2⟩ := va_run hn
  show cond _ _ _ = _
  rcases v2 with ⟨h, g⟩ | ⟨h, j, g⟩
  · simp [v1, g, valB_t h, Nat.beq, Tr.val]
  · simp [v1, g, valB_f h, Nat.beq, Tr.val]
noncomputable def vac_g : List AV → Option (Tr AV)
  | [.one (.d _ _ (.prod (.int .i64) (.int .i64)) L)] => some (.br (decide ((L.length : Int) ≤ 9223372036854775807)) (.ret (.one (.v false (.bool (valB L))))) (.bad 900))
  | _ => none
set_option maxHeartbeats 4000000 in
theorem vac_ok : FunOK Try.prog 96 vac_g := by
  refine fun_ok (by kernel_rfl) (S0_ok _) (rgA_L54_ok) 9 (On := (opens [])) (fun args t h => ?_)
  unfold vac_g at h
  split at h
  · rename_i _ _ L
    simp only [Option.some.injEq] at h
    subst h
    refine ⟨[.one (.d false false (.prod (.int .i64) (.int .i64)) L)], rfl, fun fr w us h => h, fun r hr => ?_⟩
    obtain ⟨hc, hr⟩ := br_bad hr
    simp only [Tr.val, Option.some.injEq] at hr
    subst hr
    rw [vac_tree]
    exact vac_val L hc
  · cases h
noncomputable def rgA_S55 : Sums := addS 96 vac_g S0
theorem rgA_S55_ok : SumOK Try.prog rgA_S55 := addS_ok (vac_ok) (S0_ok _)
set_option maxRecDepth 100000 in
theorem fic_tree (L : (Ty.list (.prod (.int .i64) (.int .i64))).den) : evalF Try.prog rgA_S55 (opens []) rgA_L54 9 84 [.one (.d false false (.prod (.int .i64) (.int .i64)) L)] = .br (((fi_cond L (false, (0 : Int))) && (bif Nat.beq (Prod.fst (fi_g L (false, (0 : Int)))) (0 : Nat) then true else (Nat.beq (Prod.fst (fi_g L (false, (0 : Int)))) (1 : Nat))))) (.ret (.one (.v false (.bool (bif Nat.beq (Prod.fst (fi_g L (false, (0 : Int)))) (0 : Nat) then Prod.fst (Prod.snd (fi_g L (false, (0 : Int)))) else decide ((↑(List.length L) : Int) > (0 : Int))))))) (.bad 116) := by kernel_rfl
theorem fic_val (L : (Ty.list (.prod (.int .i64) (.int .i64))).den) (hc : (decide ((L.length : Int) ≤ 9223372036854775807)) = true) : (.br (((fi_cond L (false, (0 : Int))) && (bif Nat.beq (Prod.fst (fi_g L (false, (0 : Int)))) (0 : Nat) then true else (Nat.beq (Prod.fst (fi_g L (false, (0 : Int)))) (1 : Nat))))) (.ret (.one (.v false (.bool (bif Nat.beq (Prod.fst (fi_g L (false, (0 : Int)))) (0 : Nat) then Prod.fst (Prod.snd (fi_g L (false, (0 : Int)))) else decide ((↑(List.length L) : Int) > (0 : Int))))))) (.bad 116) : Tr AV).val = some (.one (.v false (.bool (fineB L)))) := by
  obtain ⟨K, rfl⟩ : ∃ K : Rl, K = L := ⟨L, rfl⟩
  have hn : (K.length : Int) ≤ 9223372036854775807 := of_decide_eq_true hc
  obtain ⟨v1, v2⟩ := fi_run hn
  show cond _ _ _ = _
  rcases v2 with ⟨h, g⟩ | ⟨h, j, g⟩
  · simp only [v1, g, fine_len h, Nat.beq, Tr.val, Bool.and_self, Bool.or_true, Bool.true_or, cond_true, cond_false, Bool.not_true, Bool.not_false]
  · simp only [v1, g, h, Nat.beq, Tr.val, Bool.and_self, Bool.or_true, Bool.true_or, cond_true, cond_false, Bool.not_true, Bool.not_false]
noncomputable def fic_g : List AV → Option (Tr AV)
  | [.one (.d _ _ (.prod (.int .i64) (.int .i64)) L)] => some (.br (decide ((L.length : Int) ≤ 9223372036854775807)) (.ret (.one (.v false (.bool (fineB L))))) (.bad 900))
  | _ => none
set_option maxHeartbeats 4000000 in
theorem fic_ok : FunOK Try.prog 84 fic_g := by
  refine fun_ok (by kernel_rfl) (rgA_S55_ok) (rgA_L54_ok) 9 (On := (opens [])) (fun args t h => ?_)
  unfold fic_g at h
  split at h
  · rename_i _ _ L
    simp only [Option.some.injEq] at h
    subst h
    refine ⟨[.one (.d false false (.prod (.int .i64) (.int .i64)) L)], rfl, fun fr w us h => h, fun r hr => ?_⟩
    obtain ⟨hc, hr⟩ := br_bad hr
    simp only [Tr.val, Option.some.injEq] at hr
    subst hr
    rw [fic_tree]
    exact fic_val L hc
  · cases h
noncomputable def rgA_S56 : Sums := addS 84 fic_g rgA_S55
theorem rgA_S56_ok : SumOK Try.prog rgA_S56 := addS_ok (fic_ok) (rgA_S55_ok)
set_option maxRecDepth 100000 in
theorem innc_tree (L : (Ty.list (.prod (.int .i64) (.int .i64))).den) (x : Int) : evalF Try.prog rgA_S56 (opens []) rgA_L54 9 67 [.one (.d false false (.prod (.int .i64) (.int .i64)) L), .one (.v false (.int .i64 x))] = .br (((inn_cond (L, x) (false, (0 : Int))) && (bif Nat.beq (Prod.fst (inn_g (L, x) (false, (0 : Int)))) (0 : Nat) then true else (Nat.beq (Prod.fst (inn_g (L, x) (false, (0 : Int)))) (1 : Nat))))) (.ret (.one (.v false (.bool (bif Nat.beq (Prod.fst (inn_g (L, x) (false, (0 : Int)))) (0 : Nat) then Prod.fst (Prod.snd (inn_g (L, x) (false, (0 : Int)))) else false))))) (.bad 116) := by kernel_rfl
theorem innc_val (L : (Ty.list (.prod (.int .i64) (.int .i64))).den) (x : Int) (hc : (decide (L.length ≤ 100000)) = true) : (.br (((inn_cond (L, x) (false, (0 : Int))) && (bif Nat.beq (Prod.fst (inn_g (L, x) (false, (0 : Int)))) (0 : Nat) then true else (Nat.beq (Prod.fst (inn_g (L, x) (false, (0 : Int)))) (1 : Nat))))) (.ret (.one (.v false (.bool (bif Nat.beq (Prod.fst (inn_g (L, x) (false, (0 : Int)))) (0 : Nat) then Prod.fst (Prod.snd (inn_g (L, x) (false, (0 : Int)))) else false))))) (.bad 116) : Tr AV).val = some (.one (.v false (.bool (memB L x)))) := by
  have hn := of_decide_eq_true hc
  obtain ⟨v1, v2⟩ := inn_run (x := x) hn
  show cond _ _ _ = _
  rcases v2 with ⟨h, g⟩ | ⟨h, j, g⟩
  · simp [hn, v1, g, h, Nat.beq, Tr.val]
  · simp [hn, v1, g, h, Nat.beq, Tr.val]
noncomputable def innc_g : List AV → Option (Tr AV)
  | [.one (.d _ _ (.prod (.int .i64) (.int .i64)) L), .one (.v _ (.int .i64 x))] => some (.br (decide (L.length ≤ 100000)) (.ret (.one (.v false (.bool (memB L x))))) (.bad 900))
  | _ => none
set_option maxHeartbeats 4000000 in
theorem innc_ok : FunOK Try.prog 67 innc_g := by
  refine fun_ok (by kernel_rfl) (rgA_S56_ok) (rgA_L54_ok) 9 (On := (opens [])) (fun args t h => ?_)
  unfold innc_g at h
  split at h
  · rename_i _ _ L _ x
    simp only [Option.some.injEq] at h
    subst h
    refine ⟨[.one (.d false false (.prod (.int .i64) (.int .i64)) L), .one (.v false (.int .i64 x))], rfl, fun fr w us h => h, fun r hr => ?_⟩
    obtain ⟨hc, hr⟩ := br_bad hr
    simp only [Tr.val, Option.some.injEq] at hr
    subst hr
    rw [innc_tree]
    exact innc_val L x hc
  · cases h
noncomputable def rgA_S57 : Sums := addS 67 innc_g rgA_S56
theorem rgA_S57_ok : SumOK Try.prog rgA_S57 := addS_ok (innc_ok) (rgA_S56_ok)
set_option maxRecDepth 100000 in
theorem lnac_tree (L : (Ty.list (.prod (.int .i64) (.int .i64))).den) : evalF Try.prog rgA_S57 (opens []) rgA_L54 9 75 [.one (.d false false (.prod (.int .i64) (.int .i64)) L)] = .br (((decide ((↑(List.length L) : Int) ≤ (9223372036854775807 : Int))) && (bif !valB L then true else ((lna_cond ((0 : Int), L, (↑(List.length L) : Int)) ((0 : Int), (0 : Int))) && (Nat.beq (Prod.fst (lna_g ((0 : Int), L, (↑(List.length L) : Int)) ((0 : Int), (0 : Int)))) (0 : Nat)))))) (.ret (.one (.v false (.int .i64 (bif !valB L then (0 : Int) else Prod.fst (Prod.snd (lna_g ((0 : Int), L, (↑(List.length L) : Int)) ((0 : Int), (0 : Int))))))))) (.bad 116) := by kernel_rfl
theorem lnac_val (L : (Ty.list (.prod (.int .i64) (.int .i64))).den) (hc : (decide (L.length ≤ 100000)) = true) : (.br (((decide ((↑(List.length L) : Int) ≤ (9223372036854775807 : Int))) && (bif !valB L then true else ((lna_cond ((0 : Int), L, (↑(List.length L) : Int)) ((0 : Int), (0 : Int))) && (Nat.beq (Prod.fst (lna_g ((0 : Int), L, (↑(List.length L) : Int)) ((0 : Int), (0 : Int)))) (0 : Nat)))))) (.ret (.one (.v false (.int .i64 (bif !valB L then (0 : Int) else Prod.fst (Prod.snd (lna_g ((0 : Int), L, (↑(List.length L) : Int)) ((0 : Int), (0 : Int))))))))) (.bad 116) : Tr AV).val = some (.one (.v false (.int .i64 (lenV L)))) := by
  have hn := of_decide_eq_true hc
  have h9 : decide ((L.length : Int) ≤ 9223372036854775807) = true := decide_eq_true (by omega)
  unfold lenV
  show cond _ _ _ = _
  cases hv : valB L
  · simp [h9, hn, Tr.val]
  · obtain ⟨v1, v2⟩ := lna_run (valB_iff.1 hv) hn
    simp [h9, hn, v1, v2, Nat.beq, Tr.val]
noncomputable def lnac_g : List AV → Option (Tr AV)
  | [.one (.d _ _ (.prod (.int .i64) (.int .i64)) L)] => some (.br (decide (L.length ≤ 100000)) (.ret (.one (.v false (.int .i64 (lenV L))))) (.bad 900))
  | _ => none
set_option maxHeartbeats 4000000 in
theorem lnac_ok : FunOK Try.prog 75 lnac_g := by
  refine fun_ok (by kernel_rfl) (rgA_S57_ok) (rgA_L54_ok) 9 (On := (opens [])) (fun args t h => ?_)
  unfold lnac_g at h
  split at h
  · rename_i _ _ L
    simp only [Option.some.injEq] at h
    subst h
    refine ⟨[.one (.d false false (.prod (.int .i64) (.int .i64)) L)], rfl, fun fr w us h => h, fun r hr => ?_⟩
    obtain ⟨hc, hr⟩ := br_bad hr
    simp only [Tr.val, Option.some.injEq] at hr
    subst hr
    rw [lnac_tree]
    exact lnac_val L hc
  · cases h
noncomputable def rgA_S58 : Sums := addS 75 lnac_g rgA_S57
theorem rgA_S58_ok : SumOK Try.prog rgA_S58 := addS_ok (lnac_ok) (rgA_S57_ok)
set_option maxRecDepth 100000 in
theorem vrc_tree (y : Int) (L : (Ty.list (.prod (.int .i64) (.int .i64))).den) : evalF Try.prog rgA_S58 (opens []) rgA_L54 9 87 [.ag [.v false (.int .i64 y), .d false false (.prod (.int .i64) (.int .i64)) L]] = .br ((bif (↑(List.length L) : Int) == (0 : Int) then true else ((decide ((↑(List.length L) : Int) ≤ (9223372036854775807 : Int))) && (bif !valB L then true else ((decide ((0 : Int) ≤ (0 : Int)) && decide ((0 : Int) < (↑(List.length L) : Int))) && ((bif bif bif bif decide ((-4096 : Int) ≤ Prod.fst (el_ii L (0 : Int))) then decide (Prod.fst (el_ii L (0 : Int)) < (4096 : Int)) else false then decide ((-4096 : Int) ≤ y) else false then decide (y < (4096 : Int)) else false then (decide ((0 : Int) ≤ IntKind.wrap .i64 ((↑(List.length L) : Int) - (1 : Int))) && decide (IntKind.wrap .i64 ((↑(List.length L) : Int) - (1 : Int)) < (↑(List.length L) : Int))) else true))))))) (.ret (.one (.v false (.bool (bif (↑(List.length L) : Int) == (0 : Int) then false else bif !valB L then false else bif bif bif bif decide ((-4096 : Int) ≤ Prod.fst (el_ii L (0 : Int))) then decide (Prod.fst (el_ii L (0 : Int)) < (4096 : Int)) else false then decide ((-4096 : Int) ≤ y) else false then decide (y < (4096 : Int)) else false then bif bif bif decide ((-4096 : Int) ≤ IntKind.wrap .i64 (Prod.snd (el_ii L (IntKind.wrap .i64 ((↑(List.length L) : Int) - (1 : Int)))) - (1 : Int))) then decide (IntKind.wrap .i64 (Prod.snd (el_ii L (IntKind.wrap .i64 ((↑(List.length L) : Int) - (1 : Int)))) - (1 : Int)) < (4096 : Int)) else false then decide ((-4096 : Int) ≤ y) else false then decide (y < (4096 : Int)) else false else false))))) (.bad 116) := by kernel_rfl
theorem vrc_val (y : Int) (L : (Ty.list (.prod (.int .i64) (.int .i64))).den) (hc : (decide ((L.length : Int) ≤ 9223372036854775807)) = true) : (.br ((bif (↑(List.length L) : Int) == (0 : Int) then true else ((decide ((↑(List.length L) : Int) ≤ (9223372036854775807 : Int))) && (bif !valB L then true else ((decide ((0 : Int) ≤ (0 : Int)) && decide ((0 : Int) < (↑(List.length L) : Int))) && ((bif bif bif bif decide ((-4096 : Int) ≤ Prod.fst (el_ii L (0 : Int))) then decide (Prod.fst (el_ii L (0 : Int)) < (4096 : Int)) else false then decide ((-4096 : Int) ≤ y) else false then decide (y < (4096 : Int)) else false then (decide ((0 : Int) ≤ IntKind.wrap .i64 ((↑(List.length L) : Int) - (1 : Int))) && decide (IntKind.wrap .i64 ((↑(List.length L) : Int) - (1 : Int)) < (↑(List.length L) : Int))) else true))))))) (.ret (.one (.v false (.bool (bif (↑(List.length L) : Int) == (0 : Int) then false else bif !valB L then false else bif bif bif bif decide ((-4096 : Int) ≤ Prod.fst (el_ii L (0 : Int))) then decide (Prod.fst (el_ii L (0 : Int)) < (4096 : Int)) else false then decide ((-4096 : Int) ≤ y) else false then decide (y < (4096 : Int)) else false then bif bif bif decide ((-4096 : Int) ≤ IntKind.wrap .i64 (Prod.snd (el_ii L (IntKind.wrap .i64 ((↑(List.length L) : Int) - (1 : Int)))) - (1 : Int))) then decide (IntKind.wrap .i64 (Prod.snd (el_ii L (IntKind.wrap .i64 ((↑(List.length L) : Int) - (1 : Int)))) - (1 : Int)) < (4096 : Int)) else false then decide ((-4096 : Int) ≤ y) else false then decide (y < (4096 : Int)) else false else false))))) (.bad 116) : Tr AV).val = some (.one (.v false (.bool (rowB y L)))) := by
  obtain ⟨K, rfl⟩ : ∃ K : Rl, K = L := ⟨L, rfl⟩
  have hn : (K.length : Int) ≤ 9223372036854775807 := of_decide_eq_true hc
  rw [rowB_eq]
  show cond _ _ _ = _
  by_cases h0 : K.length = 0
  · have e : K = [] := List.length_eq_zero_iff.1 h0
    subst e
    have f : fineB [] = false := by rw [← Bool.not_eq_true, fineB_iff]; exact fun h => h.1 rfl
    rw [f]
    simp [Tr.val]
  · have hp : 0 < K.length := by omega
    have b0 : ((K.length : Int) == (0 : Int)) = false := by rw [beq_eq_false_iff_ne]; omega
    have cn : decide ((K.length : Int) ≤ 9223372036854775807) = true := decide_eq_true hn
    cases hv : valB K
    · have f : fineB K = false := by
        rw [← Bool.not_eq_true, fineB_iff]
        intro h
        have := valB_iff.2 (rowOk_val (r := (0, K)) (rowOk_iff.2 ⟨by omega, by omega, h⟩))
        rw [hv] at this; cases this
      simp only [b0, cn, f, Bool.not_false, Bool.and_false, Bool.and_self, cond_true, cond_false, Tr.val]
    · have h := valB_iff.1 hv
      have a := good_in h hp
      have z := good_in h (j := K.length - 1) (by omega)
      have e0 : el_ii K (0 : Int) = K[0] := el_r (i := 0) hp
      have e1 : IntKind.wrap .i64 ((K.length : Int) - (1 : Int)) = ((K.length - 1 : Nat) : Int) := by rw [wid (by omega) (by omega)]; omega
      have e2 := el_r (L := K) (i := K.length - 1) (by omega)
      have w1 : IntKind.wrap .i64 ((K[K.length - 1]'(by omega)).2 - (1 : Int)) = (K[K.length - 1]'(by omega)).2 - 1 := wid (by omega) (by omega)
      have c0 : decide ((0 : Int) < (K.length : Int)) = true := decide_eq_true (by omega)
      have c1 : decide (((K.length - 1 : Nat) : Int) < (K.length : Int)) = true := decide_eq_true (by omega)
      have c2 : decide ((0 : Int) ≤ ((K.length - 1 : Nat) : Int)) = true := decide_eq_true (by omega)
      have c3 : decide ((0 : Int) ≤ (0 : Int)) = true := rfl
      have hf : fineB K = (decide (-4096 ≤ K[0].1) && decide ((K[K.length - 1]'(by omega)).2 ≤ 4096)) := by
        rw [Bool.eq_iff_iff, fineB_iff, fine_ends h hp, Bool.and_eq_true, decide_eq_true_eq, decide_eq_true_eq]
      have hin := (val_ends h hp _ (List.getElem_mem (show K.length - 1 < K.length by omega)))
      have hin2 := (val_ends h hp _ (List.getElem_mem hp))
      rw [hf]
      simp only [b0, cn, e0, e1, e2, w1, c0, c1, c2, c3, Bool.not_true, Bool.and_self, Bool.cond_self, cond_true, cond_false]
      refine congrArg (fun b => some (AV.one (.v false (.bool b)))) ?_
      rw [Bool.eq_iff_iff]
      simp [Bool.cond_eq_ite]
      omega
noncomputable def vrc_g : List AV → Option (Tr AV)
  | [.ag [.v _ (.int .i64 y), .d _ _ (.prod (.int .i64) (.int .i64)) L]] => some (.br (decide ((L.length : Int) ≤ 9223372036854775807)) (.ret (.one (.v false (.bool (rowB y L))))) (.bad 900))
  | _ => none
set_option maxHeartbeats 4000000 in
theorem vrc_ok : FunOK Try.prog 87 vrc_g := by
  refine fun_ok (by kernel_rfl) (rgA_S58_ok) (rgA_L54_ok) 9 (On := (opens [])) (fun args t h => ?_)
  unfold vrc_g at h
  split at h
  · rename_i _ y _ _ L
    simp only [Option.some.injEq] at h
    subst h
    refine ⟨[.ag [.v false (.int .i64 y), .d false false (.prod (.int .i64) (.int .i64)) L]], rfl, fun fr w us h => h, fun r hr => ?_⟩
    obtain ⟨hc, hr⟩ := br_bad hr
    simp only [Tr.val, Option.some.injEq] at hr
    subst hr
    rw [vrc_tree]
    exact vrc_val y L hc
  · cases h
noncomputable def rgA_S59 : Sums := addS 87 vrc_g rgA_S58
theorem rgA_S59_ok : SumOK Try.prog rgA_S59 := addS_ok (vrc_ok) (rgA_S58_ok)
abbrev gva_U : Type := (Ty.list (.prod (.int .i64) (.list (.prod (.int .i64) (.int .i64))))).den × Int × (Ty.list (.prod (.int .i64) (.list (.prod (.int .i64) (.int .i64))))).den
noncomputable def gva_St (u : gva_U) (v : va_V) : Stt := ⟨[.one .junk, .one (.p 0 0), .one (.v false (.bool v.1)), .one .junk, .one .junk, .one .junk, .one (.d false false (.prod (.int .i64) (.list (.prod (.int .i64) (.int .i64)))) u.1), .one (.v false (.int .i64 u.2.1)), .one (.v false (.int .i64 v.2)), .one .junk, .one .junk, .one .junk, .one .junk, .one .junk, .one .junk, .one .junk, .one .junk, .one .junk, .one .junk, .one .junk, .one .junk, .one .junk, .one .junk, .one .junk, .one .junk, .one .junk, .one .junk, .one .junk, .one .junk, .one .junk, .one .junk, .one .junk, .one .junk], [(0, .cells [.d false false (.prod (.int .i64) (.list (.prod (.int .i64) (.int .i64)))) u.2.2])], 1006⟩
def el_ilii (l : (Ty.list (Ty.prod (Ty.int IntKind.i64) (Ty.list (Ty.prod (Ty.int IntKind.i64) (Ty.int IntKind.i64))))).den) (i : Int) : (Int × (List (Int × Int))) := elm (Ty.prod (Ty.int IntKind.i64) (Ty.list (Ty.prod (Ty.int IntKind.i64) (Ty.int IntKind.i64)))) l i
noncomputable def gva_step (u : gva_U) (v : va_V) : Tr (va_V ⊕ (Nat × va_V)) :=
  match u, v with
  | (q1, q2, q4), (q0, q3) => .br (decide (q3 < q2)) (.br (decide ((0 : Int) ≤ q3) && decide (q3 < (↑(List.length q1) : Int))) (.br ((bif decide (q3 > (0 : Int)) then (decide ((0 : Int) ≤ IntKind.wrap .i64 (q3 - (1 : Int))) && decide (IntKind.wrap .i64 (q3 - (1 : Int)) < (↑(List.length q4) : Int))) else true)) (.br (bif decide (q3 > (0 : Int)) then decide (Prod.fst (el_ilii q1 q3) ≤ Prod.fst (el_ilii q4 (IntKind.wrap .i64 (q3 - (1 : Int))))) else false) (.ret (.inr (0, (false, q3)))) (.br (decide ((↑(List.length (Prod.snd (el_ilii q1 q3))) : Int) ≤ (9223372036854775807 : Int))) (.br (!rowB (Prod.fst (el_ilii q1 q3)) (Prod.snd (el_ilii q1 q3))) (.ret (.inr (0, (false, q3)))) (.ret (.inl (q0, IntKind.wrap .i64 (q3 + (1 : Int)))))) (.bad 900))) (.bad 117)) (.bad 29)) (.ret (.inr (1, (q0, q3))))
set_option maxRecDepth 100000 in
set_option maxHeartbeats 4000000 in
theorem gva_step_eq : ∀ (u : gva_U) (v : va_V), (evalC Try.prog (evalB Try.prog rgA_S59 (opens []) rgA_L54 7).1 (evalB Try.prog rgA_S59 (opens []) rgA_L54 7).2 (opens []) (rgA_L54 53) 100000 (0 :: [0, 1, 0, 1]) (loopOf (bodyOf Try.prog 53) [1, 0, 1, 0]) (gva_St u v) []).bind (finF [0, 3, 4, 5, 9, 10, 11, 12, 13, 14, 15, 16, 17, 18, 19, 20, 21, 22, 23, 24, 25, 26, 27, 28, 29, 30, 31, 32] [] [0] [] 1006) = (gva_step u v).bind (outA (gva_St u) [.ret, .exit 0]) := by
  rintro ⟨q1, q2, q4⟩ ⟨q0, q3⟩
  kernel_rfl
noncomputable def gva_rd (b : Bool) (o1 : Option AV) (o2 : Option AV) (o6 : Option AV) (o7 : Option AV) (o8 : Option AV) (own : Own) : Option (gva_U × va_V) := zrT b <| zrO o1 fun za1 => zrA1 za1 fun zc2 => zrP 0 0 zc2 <| zrO o2 fun za3 => zrA1 za3 fun zc4 => zrB zc4 fun q0 => zrO o6 fun za5 => zrA1 za5 fun zc6 => zrD (.prod (.int .i64) (.list (.prod (.int .i64) (.int .i64)))) zc6 fun q1 => zrO o7 fun za7 => zrA1 za7 fun zc8 => zrI .i64 zc8 fun q2 => zrO o8 fun za9 => zrA1 za9 fun zc10 => zrI .i64 zc10 fun q3 => zrL own fun zq11 zw12 => zrKey 0 zq11 fun zk13 => zrC zk13 fun zl14 => zrL zl14 fun zc15 zr16 => zrD (.prod (.int .i64) (.list (.prod (.int .i64) (.int .i64)))) zc15 fun q4 => zrN zr16 <| zrN zw12 <| some ((q1, q2, q4), (q0, q3))
noncomputable def gva_can (st : Stt) : Stt := canA [0, 3, 4, 5, 9, 10, 11, 12, 13, 14, 15, 16, 17, 18, 19, 20, 21, 22, 23, 24, 25, 26, 27, 28, 29, 30, 31, 32] [] [0] [] 1006 st
noncomputable def gva_cok (st : Stt) : Bool := canAok [0, 3, 4, 5, 9, 10, 11, 12, 13, 14, 15, 16, 17, 18, 19, 20, 21, 22, 23, 24, 25, 26, 27, 28, 29, 30, 31, 32] [] [0] [] 1006 st
noncomputable def gva_read (st : Stt) : Option (gva_U × va_V) := gva_rd (gva_cok st && (staysA [] [0] st.own && juAll [0, 3, 4, 5, 9, 10, 11, 12, 13, 14, 15, 16, 17, 18, 19, 20, 21, 22, 23, 24, 25, 26, 27, 28, 29, 30, 31, 32] (gva_can st).tm 33)) (gva_can st).tm[1]? (gva_can st).tm[2]? (gva_can st).tm[6]? (gva_can st).tm[7]? (gva_can st).tm[8]? (gva_can st).own
set_option maxRecDepth 100000 in
set_option maxHeartbeats 4000000 in
theorem gva_rd_ok {b : Bool} {tm : List AV} {own : Own} {u : gva_U} {v : va_V} (hj : b = true → juAll [0, 3, 4, 5, 9, 10, 11, 12, 13, 14, 15, 16, 17, 18, 19, 20, 21, 22, 23, 24, 25, 26, 27, 28, 29, 30, 31, 32] tm 33 = true) (h : gva_rd b tm[1]? tm[2]? tm[6]? tm[7]? tm[8]? own = some (u, v)) : b = true ∧ tm = (gva_St u v).tm ∧ own = (gva_St u v).own := by
  unfold gva_rd at h
  obtain ⟨rfl, h0⟩ := zrT_some h
  obtain ⟨za1, e1, h1⟩ := zrO_some h0
  obtain ⟨zc2, rfl, h2⟩ := zrA1_some h1
  obtain ⟨rfl, h3⟩ := zrP_some h2
  obtain ⟨za3, e2, h4⟩ := zrO_some h3
  obtain ⟨zc4, rfl, h5⟩ := zrA1_some h4
  obtain ⟨q0, rfl, h6⟩ := zrB_some h5
  obtain ⟨za5, e6, h7⟩ := zrO_some h6
  obtain ⟨zc6, rfl, h8⟩ := zrA1_some h7
  obtain ⟨q1, rfl, h9⟩ := zrD_some h8
  obtain ⟨za7, e7, h10⟩ := zrO_some h9
  obtain ⟨zc8, rfl, h11⟩ := zrA1_some h10
  obtain ⟨q2, rfl, h12⟩ := zrI_some h11
  obtain ⟨za9, e8, h13⟩ := zrO_some h12
  obtain ⟨zc10, rfl, h14⟩ := zrA1_some h13
  obtain ⟨q3, rfl, h15⟩ := zrI_some h14
  obtain ⟨zq11, zw12, rfl, h16⟩ := zrL_some h15
  obtain ⟨zk13, rfl, h17⟩ := zrKey_some h16
  obtain ⟨zl14, rfl, h18⟩ := zrC_some h17
  obtain ⟨zc15, zr16, rfl, h19⟩ := zrL_some h18
  obtain ⟨q4, rfl, h20⟩ := zrD_some h19
  obtain ⟨rfl, h21⟩ := zrN_some h20
  obtain ⟨rfl, h22⟩ := zrN_some h21
  have h := Option.some.inj h22
  have hu := congrArg Prod.fst h
  have hv := congrArg Prod.snd h
  dsimp only at hu hv
  subst hu
  subst hv
  exact ⟨rfl, (tm_fill (hj rfl) (Lv := [(1, .one (.p 0 0)), (2, .one (.v false (.bool q0))), (6, .one (.d false false (.prod (.int .i64) (.list (.prod (.int .i64) (.int .i64)))) q1)), (7, .one (.v false (.int .i64 q2))), (8, .one (.v false (.int .i64 q3)))]) (by kernel_rfl) ⟨e1, e2, e6, e7, e8, trivial⟩).trans (by kernel_rfl), rfl⟩
theorem gva_read_ok (st : Stt) (u : gva_U) (v : va_V) (h : gva_read st = some (u, v)) : gva_cok st = true ∧ staysA [] [0] st.own = true ∧ gva_can st = gva_St u v := by
  obtain ⟨h1, h2, h3⟩ := gva_rd_ok (fun hb => by rw [Bool.and_eq_true, Bool.and_eq_true] at hb; exact hb.2.2) h
  rw [Bool.and_eq_true, Bool.and_eq_true] at h1
  refine ⟨h1.1, h1.2.1, ?_⟩
  have e : gva_can st = ⟨(gva_can st).tm, (gva_can st).own, 1006⟩ := by kernel_rfl
  rw [e, h2, h3]
  rfl
noncomputable def gva_cond (u : gva_U) (v : va_V) : Bool := runC (gva_step u) v
noncomputable def gva_g (u : gva_U) (v : va_V) : Nat × va_V := runG (gva_step u) v
theorem gva_hg : ∀ (u : gva_U) (v : va_V), gva_cond u v = true → loopN (gva_step u) ((fun u v => runF (gva_step u) v) u v) v = some (gva_g u v) := by
  exact fun u v h => run_hg h
noncomputable def gva_m (st : Stt) : Option (Tr (Ex × Stt)) := sumM gva_read gva_cond gva_St gva_g [(0, .ret), (1, .exit 0)] st
noncomputable def rgA_L60 : FuncId → Loops := addL 53 [0, 1, 0, 1] gva_m rgA_L54
set_option maxRecDepth 100000 in
set_option maxHeartbeats 4000000 in
theorem rgA_L60_ok : LoopsOK Try.prog rgA_L60 :=
  loop_sumF (body := (bodyOf Try.prog 53)) (c := (loopOf (bodyOf Try.prog 53) [1, 0, 1, 0])) (kinds := [.ret, .exit 0]) (allow := [(0, .ret), (1, .exit 0)]) (St := gva_St) (step := gva_step) (W := [0, 3, 4, 5, 9, 10, 11, 12, 13, 14, 15, 16, 17, 18, 19, 20, 21, 22, 23, 24, 25, 26, 27, 28, 29, 30, 31, 32]) (As := []) (ks := [0]) (dd := []) (nx := 1006) (n := 100000) (g := gva_g) (cond := gva_cond) (fuel := (fun u v => runF (gva_step u) v)) (read := gva_read) (by kernel_rfl) (rgA_S59_ok) (rgA_L54_ok) 7 ⟨Try.f53, by kernel_rfl, by kernel_rfl⟩ (by kernel_rfl) (by kernel_rfl) (by kernel_rfl) gva_step_eq gva_hg gva_read_ok
abbrev gvb_U : Type := (Ty.list (.prod (.int .i64) (.list (.prod (.int .i64) (.int .i64))))).den
noncomputable def gvb_St (u : gvb_U) (v : va_V) : Stt := ⟨[.one .junk, .one (.p 0 0), .one (.v false (.bool v.1)), .one (.v false (.int .i64 v.2)), .one .junk, .one .junk, .one .junk, .one .junk, .one .junk, .one .junk, .one .junk, .one .junk, .one .junk, .one .junk, .one .junk, .one .junk, .one .junk, .one .junk, .one .junk, .one .junk, .one .junk, .one .junk, .one .junk, .one .junk, .one .junk, .one .junk, .one .junk, .one .junk, .one .junk, .one .junk, .one .junk, .one .junk, .one .junk, .one .junk, .one .junk, .one .junk, .one .junk, .one .junk, .one .junk, .one .junk, .one .junk, .one .junk, .one .junk, .one .junk, .one .junk, .one .junk, .one .junk, .one .junk, .one .junk], [(0, .cells [.d false false (.prod (.int .i64) (.list (.prod (.int .i64) (.int .i64)))) u])], 1003⟩
noncomputable def gvb_step (u : gvb_U) (v : va_V) : Tr (va_V ⊕ (Nat × va_V)) :=
  match u, v with
  | q2, (q0, q1) => .br (decide (q1 < (↑(List.length q2) : Int))) (.br (decide ((0 : Int) ≤ q1) && decide (q1 < (↑(List.length q2) : Int))) (.br ((bif bif decide (Prod.fst (el_ilii q2 q1) < (-4096 : Int)) then true else decide (Prod.fst (el_ilii q2 q1) ≥ (4096 : Int)) then true else (bif decide (q1 > (0 : Int)) then (decide ((0 : Int) ≤ IntKind.wrap .i64 (q1 - (1 : Int))) && decide (IntKind.wrap .i64 (q1 - (1 : Int)) < (↑(List.length q2) : Int))) else true))) (.br (bif bif decide (Prod.fst (el_ilii q2 q1) < (-4096 : Int)) then true else decide (Prod.fst (el_ilii q2 q1) ≥ (4096 : Int)) then true else bif decide (q1 > (0 : Int)) then decide (Prod.fst (el_ilii q2 q1) ≤ Prod.fst (el_ilii q2 (IntKind.wrap .i64 (q1 - (1 : Int))))) else false) (.ret (.inr (0, (false, q1)))) (.br (decide ((0 : Int) ≤ q1) && decide (q1 < (↑(List.length q2) : Int))) (.br (decide ((↑(List.length (Prod.snd (el_ilii q2 q1))) : Int) ≤ (9223372036854775807 : Int))) (.br (!fineB (Prod.snd (el_ilii q2 q1))) (.ret (.inr (0, (false, q1)))) (.ret (.inl (q0, IntKind.wrap .i64 (q1 + (1 : Int)))))) (.bad 900)) (.bad 29))) (.bad 117)) (.bad 29)) (.ret (.inr (1, (q0, q1))))
set_option maxRecDepth 100000 in
set_option maxHeartbeats 4000000 in
theorem gvb_step_eq : ∀ (u : gvb_U) (v : va_V), (evalC Try.prog (evalB Try.prog rgA_S59 (opens []) rgA_L60 7).1 (evalB Try.prog rgA_S59 (opens []) rgA_L60 7).2 (opens []) (rgA_L60 48) 100000 (0 :: [0, 1, 0, 1]) (loopOf (bodyOf Try.prog 48) [1, 0, 1, 0]) (gvb_St u v) []).bind (finF [0, 4, 5, 6, 7, 8, 9, 10, 11, 12, 13, 14, 15, 16, 17, 18, 19, 20, 21, 22, 23, 24, 25, 26, 27, 28, 29, 30, 31, 32, 33, 34, 35, 36, 37, 38, 39, 40, 41, 42, 43, 44, 45, 46, 47, 48] [] [0] [] 1003) = (gvb_step u v).bind (outA (gvb_St u) [.ret, .exit 0]) := by
  rintro q2 ⟨q0, q1⟩
  kernel_rfl
noncomputable def gvb_rd (b : Bool) (o1 : Option AV) (o2 : Option AV) (o3 : Option AV) (own : Own) : Option (gvb_U × va_V) := zrT b <| zrO o1 fun za1 => zrA1 za1 fun zc2 => zrP 0 0 zc2 <| zrO o2 fun za3 => zrA1 za3 fun zc4 => zrB zc4 fun q0 => zrO o3 fun za5 => zrA1 za5 fun zc6 => zrI .i64 zc6 fun q1 => zrL own fun zq7 zw8 => zrKey 0 zq7 fun zk9 => zrC zk9 fun zl10 => zrL zl10 fun zc11 zr12 => zrD (.prod (.int .i64) (.list (.prod (.int .i64) (.int .i64)))) zc11 fun q2 => zrN zr12 <| zrN zw8 <| some (q2, (q0, q1))
noncomputable def gvb_can (st : Stt) : Stt := canA [0, 4, 5, 6, 7, 8, 9, 10, 11, 12, 13, 14, 15, 16, 17, 18, 19, 20, 21, 22, 23, 24, 25, 26, 27, 28, 29, 30, 31, 32, 33, 34, 35, 36, 37, 38, 39, 40, 41, 42, 43, 44, 45, 46, 47, 48] [] [0] [] 1003 st
noncomputable def gvb_cok (st : Stt) : Bool := canAok [0, 4, 5, 6, 7, 8, 9, 10, 11, 12, 13, 14, 15, 16, 17, 18, 19, 20, 21, 22, 23, 24, 25, 26, 27, 28, 29, 30, 31, 32, 33, 34, 35, 36, 37, 38, 39, 40, 41, 42, 43, 44, 45, 46, 47, 48] [] [0] [] 1003 st
noncomputable def gvb_read (st : Stt) : Option (gvb_U × va_V) := gvb_rd (gvb_cok st && (staysA [] [0] st.own && juAll [0, 4, 5, 6, 7, 8, 9, 10, 11, 12, 13, 14, 15, 16, 17, 18, 19, 20, 21, 22, 23, 24, 25, 26, 27, 28, 29, 30, 31, 32, 33, 34, 35, 36, 37, 38, 39, 40, 41, 42, 43, 44, 45, 46, 47, 48] (gvb_can st).tm 49)) (gvb_can st).tm[1]? (gvb_can st).tm[2]? (gvb_can st).tm[3]? (gvb_can st).own
set_option maxRecDepth 100000 in
set_option maxHeartbeats 4000000 in
theorem gvb_rd_ok {b : Bool} {tm : List AV} {own : Own} {u : gvb_U} {v : va_V} (hj : b = true → juAll [0, 4, 5, 6, 7, 8, 9, 10, 11, 12, 13, 14, 15, 16, 17, 18, 19, 20, 21, 22, 23, 24, 25, 26, 27, 28, 29, 30, 31, 32, 33, 34, 35, 36, 37, 38, 39, 40, 41, 42, 43, 44, 45, 46, 47, 48] tm 49 = true) (h : gvb_rd b tm[1]? tm[2]? tm[3]? own = some (u, v)) : b = true ∧ tm = (gvb_St u v).tm ∧ own = (gvb_St u v).own := by
  unfold gvb_rd at h
  obtain ⟨rfl, h0⟩ := zrT_some h
  obtain ⟨za1, e1, h1⟩ := zrO_some h0
  obtain ⟨zc2, rfl, h2⟩ := zrA1_some h1
  obtain ⟨rfl, h3⟩ := zrP_some h2
  obtain ⟨za3, e2, h4⟩ := zrO_some h3
  obtain ⟨zc4, rfl, h5⟩ := zrA1_some h4
  obtain ⟨q0, rfl, h6⟩ := zrB_some h5
  obtain ⟨za5, e3, h7⟩ := zrO_some h6
  obtain ⟨zc6, rfl, h8⟩ := zrA1_some h7
  obtain ⟨q1, rfl, h9⟩ := zrI_some h8
  obtain ⟨zq7, zw8, rfl, h10⟩ := zrL_some h9
  obtain ⟨zk9, rfl, h11⟩ := zrKey_some h10
  obtain ⟨zl10, rfl, h12⟩ := zrC_some h11
  obtain ⟨zc11, zr12, rfl, h13⟩ := zrL_some h12
  obtain ⟨q2, rfl, h14⟩ := zrD_some h13
  obtain ⟨rfl, h15⟩ := zrN_some h14
  obtain ⟨rfl, h16⟩ := zrN_some h15
  have h := Option.some.inj h16
  have hu := congrArg Prod.fst h
  have hv := congrArg Prod.snd h
  dsimp only at hu hv
  subst hu
  subst hv
  exact ⟨rfl, (tm_fill (hj rfl) (Lv := [(1, .one (.p 0 0)), (2, .one (.v false (.bool q0))), (3, .one (.v false (.int .i64 q1)))]) (by kernel_rfl) ⟨e1, e2, e3, trivial⟩).trans (by kernel_rfl), rfl⟩
theorem gvb_read_ok (st : Stt) (u : gvb_U) (v : va_V) (h : gvb_read st = some (u, v)) : gvb_cok st = true ∧ staysA [] [0] st.own = true ∧ gvb_can st = gvb_St u v := by
  obtain ⟨h1, h2, h3⟩ := gvb_rd_ok (fun hb => by rw [Bool.and_eq_true, Bool.and_eq_true] at hb; exact hb.2.2) h
  rw [Bool.and_eq_true, Bool.and_eq_true] at h1
  refine ⟨h1.1, h1.2.1, ?_⟩
  have e : gvb_can st = ⟨(gvb_can st).tm, (gvb_can st).own, 1003⟩ := by kernel_rfl
  rw [e, h2, h3]
  rfl
noncomputable def gvb_cond (u : gvb_U) (v : va_V) : Bool := runC (gvb_step u) v
noncomputable def gvb_g (u : gvb_U) (v : va_V) : Nat × va_V := runG (gvb_step u) v
theorem gvb_hg : ∀ (u : gvb_U) (v : va_V), gvb_cond u v = true → loopN (gvb_step u) ((fun u v => runF (gvb_step u) v) u v) v = some (gvb_g u v) := by
  exact fun u v h => run_hg h
noncomputable def gvb_m (st : Stt) : Option (Tr (Ex × Stt)) := sumM gvb_read gvb_cond gvb_St gvb_g [(0, .ret), (1, .exit 0)] st
noncomputable def rgA_L61 : FuncId → Loops := addL 48 [0, 1, 0, 1] gvb_m rgA_L60
set_option maxRecDepth 100000 in
set_option maxHeartbeats 4000000 in
theorem rgA_L61_ok : LoopsOK Try.prog rgA_L61 :=
  loop_sumF (body := (bodyOf Try.prog 48)) (c := (loopOf (bodyOf Try.prog 48) [1, 0, 1, 0])) (kinds := [.ret, .exit 0]) (allow := [(0, .ret), (1, .exit 0)]) (St := gvb_St) (step := gvb_step) (W := [0, 4, 5, 6, 7, 8, 9, 10, 11, 12, 13, 14, 15, 16, 17, 18, 19, 20, 21, 22, 23, 24, 25, 26, 27, 28, 29, 30, 31, 32, 33, 34, 35, 36, 37, 38, 39, 40, 41, 42, 43, 44, 45, 46, 47, 48]) (As := []) (ks := [0]) (dd := []) (nx := 1003) (n := 100000) (g := gvb_g) (cond := gvb_cond) (fuel := (fun u v => runF (gvb_step u) v)) (read := gvb_read) (by kernel_rfl) (rgA_S59_ok) (rgA_L60_ok) 7 ⟨Try.f48, by kernel_rfl, by kernel_rfl⟩ (by kernel_rfl) (by kernel_rfl) (by kernel_rfl) gvb_step_eq gvb_hg gvb_read_ok
end Go.Proofs.Ytacgchandefjgaa

namespace Go.Proofs.Ytacgchandefjgaa
open Go
theorem el_g {R : Rg} {i : Nat} (h : i < R.length) : el_ilii R (i : Int) = R[i] := elm_lt (t := (.prod (.int .i64) (.list (.prod (.int .i64) (.int .i64))))) h
theorem pre_n {n i : Nat} (h : i < n) (hn : (n : Int) ≤ 9223372036854775807) : (bif decide ((i : Int) > (0 : Int)) then (decide ((0 : Int) ≤ IntKind.wrap .i64 ((i : Int) - (1 : Int))) && decide (IntKind.wrap .i64 ((i : Int) - (1 : Int)) < (n : Int))) else true) = true ∧ (0 < i → IntKind.wrap .i64 ((i : Int) - (1 : Int)) = ((i - 1 : Nat) : Int)) := by
  cases i with
  | zero => exact ⟨rfl, fun h => absurd h (Nat.lt_irrefl _)⟩
  | succ i =>
    have e : IntKind.wrap .i64 (((i + 1 : Nat) : Int) - (1 : Int)) = (i : Int) := by rw [wid (by omega) (by omega)]; omega
    rw [e]
    refine ⟨?_, fun _ => rfl⟩
    rw [decide_eq_true (show ((i + 1 : Nat) : Int) > 0 by omega), decide_eq_true (show (0 : Int) ≤ (i : Int) by omega), decide_eq_true (show (i : Int) < (n : Int) by omega)]
    rfl
noncomputable def bdG (R : Rg) (i : Nat) : Bool := bif (bif decide ((i : Int) > (0 : Int)) then decide (Prod.fst (el_ilii R (i : Int)) ≤ Prod.fst (el_ilii R (IntKind.wrap .i64 ((i : Int) - (1 : Int))))) else false) then true else !rowB (Prod.fst (el_ilii R (i : Int))) (Prod.snd (el_ilii R (i : Int)))
noncomputable def bdH (R : Rg) (i : Nat) : Bool := bif (bif bif decide (Prod.fst (el_ilii R (i : Int)) < (-4096 : Int)) then true else decide (Prod.fst (el_ilii R (i : Int)) ≥ (4096 : Int)) then true else bif decide ((i : Int) > (0 : Int)) then decide (Prod.fst (el_ilii R (i : Int)) ≤ Prod.fst (el_ilii R (IntKind.wrap .i64 ((i : Int) - (1 : Int))))) else false) then true else !fineB (Prod.snd (el_ilii R (i : Int)))
theorem bdG_one {R : Rg} (hn : (R.length : Int) ≤ 9223372036854775807) {i : Nat} (h : i < R.length) : (!bdG R i) = true ↔ goodG (-4097) R i h := by
  have e := el_g h
  unfold goodG bdG
  have hr : rowB R[i].1 R[i].2 = true ↔ rowOk R[i] := rowB_iff
  by_cases h0 : 0 < i
  · have e2 := (pre_n h hn).2 h0
    have e3 := el_g (R := R) (i := i - 1) (by omega)
    have d : decide ((i : Int) > (0 : Int)) = true := decide_eq_true (by omega)
    rw [e, e2, e3, d]
    simp [Bool.cond_eq_ite, hr]
    constructor
    · rintro ⟨a, b⟩; exact ⟨b, by have := b.1; omega, fun _ => a⟩
    · rintro ⟨a, _, c⟩; exact ⟨c h0, a⟩
  · have d : decide ((i : Int) > (0 : Int)) = false := decide_eq_false (by omega)
    rw [e, d]
    simp [Bool.cond_eq_ite, hr]
    intro a
    exact ⟨by have := a.1; omega, fun g => absurd g h0⟩
theorem bdH_eq {R : Rg} (hn : (R.length : Int) ≤ 9223372036854775807) {i : Nat} (h : i < R.length) : bdH R i = bdG R i := by
  unfold bdH bdG
  rw [rowB_eq]
  have e : ∀ (y : Int) (b f : Bool), (bif bif bif decide (y < (-4096 : Int)) then true else decide (y ≥ (4096 : Int)) then true else b then true else !f) = (bif b then true else !(decide (-4096 ≤ y) && (decide (y < 4096) && f))) := fun y b f => by
    by_cases h1 : y < -4096
    · rw [decide_eq_true h1, decide_eq_false (show ¬ -4096 ≤ y by omega)]; cases b <;> rfl
    · rw [decide_eq_false h1, decide_eq_true (show -4096 ≤ y by omega)]
      by_cases h2 : y ≥ 4096
      · rw [decide_eq_true h2, decide_eq_false (show ¬ y < 4096 by omega)]; cases b <;> rfl
      · rw [decide_eq_false h2, decide_eq_true (show y < 4096 by omega)]; cases b <;> cases f <;> rfl
  exact e _ _ _
theorem gva_run {R : Rg} (hs : szG R = true) : gva_cond (R, (R.length : Int), R) (false, 0) = true ∧ ((valG R ∧ gva_g (R, (R.length : Int), R) (false, 0) = (1, (false, (R.length : Int)))) ∨ (¬ valG R ∧ ∃ j : Nat, gva_g (R, (R.length : Int), R) (false, 0) = (0, (false, (j : Int))))) := by
  have hn := sz_len hs
  obtain ⟨h1, h2⟩ := run_scan (step := gva_step (R, (R.length : Int), R)) (St := fun i => (false, (i : Int))) (Lv := fun i => (0, (false, (i : Int)))) (t := (1, (false, (R.length : Int)))) (n := R.length) (p := fun i => !bdG R i) (fun i hi => by
    have c5 := (pre_n hi hn).1
    have c6 : decide (((Prod.snd (el_ilii R (i : Int))).length : Int) ≤ 9223372036854775807) = true := by rw [el_g hi]; exact decide_eq_true (sz_row hs hi)
    simp only [gva_step, Tr.val, lt_t hi, nn_t, c5, c6, wi2 hi (show (R.length : Int) ≤ 9223372036854775807 by omega), Bool.and_self, Bool.cond_self, cond_true]
    unfold bdG
    generalize rowB _ _ = b
    generalize (bif decide ((i : Int) > (0 : Int)) then decide (Prod.fst (el_ilii R (i : Int)) ≤ Prod.fst (el_ilii R (IntKind.wrap .i64 ((i : Int) - (1 : Int))))) else false) = c
    cases c <;> cases b <;> rfl) (by simp only [gva_step, Tr.val, Int.lt_irrefl, decide_false, cond_false])
  refine ⟨h1, ?_⟩
  rcases h2 with ⟨h, h3⟩ | ⟨j, hj, hp, _, h4⟩
  · exact .inl ⟨valG_good.2 fun i hi => (bdG_one hn hi).1 (h i hi), h3⟩
  · refine .inr ⟨fun hv => ?_, j, h4⟩
    have := (bdG_one hn hj).2 (valG_good.1 hv j hj)
    rw [this] at hp; cases hp
theorem gvb_run {R : Rg} (hs : szG R = true) : gvb_cond R (false, 0) = true ∧ ((valG R ∧ gvb_g R (false, 0) = (1, (false, (R.length : Int)))) ∨ (¬ valG R ∧ ∃ j : Nat, gvb_g R (false, 0) = (0, (false, (j : Int))))) := by
  have hn := sz_len hs
  obtain ⟨h1, h2⟩ := run_scan (step := gvb_step R) (St := fun i => (false, (i : Int))) (Lv := fun i => (0, (false, (i : Int)))) (t := (1, (false, (R.length : Int)))) (n := R.length) (p := fun i => !bdG R i) (fun i hi => by
    have c5 := (pre_n hi hn).1
    have c6 : decide (((Prod.snd (el_ilii R (i : Int))).length : Int) ≤ 9223372036854775807) = true := by rw [el_g hi]; exact decide_eq_true (sz_row hs hi)
    simp only [gvb_step, Tr.val, lt_t hi, nn_t, c5, c6, wi2 hi (show (R.length : Int) ≤ 9223372036854775807 by omega), Bool.and_self, Bool.cond_self, cond_true]
    rw [← bdH_eq hn hi]
    unfold bdH
    generalize fineB _ = b
    generalize (bif bif decide (Prod.fst (el_ilii R (i : Int)) < (-4096 : Int)) then true else decide (Prod.fst (el_ilii R (i : Int)) ≥ (4096 : Int)) then true else bif decide ((i : Int) > (0 : Int)) then decide (Prod.fst (el_ilii R (i : Int)) ≤ Prod.fst (el_ilii R (IntKind.wrap .i64 ((i : Int) - (1 : Int))))) else false) = c
    cases c <;> cases b <;> rfl) (by simp only [gvb_step, Tr.val, Int.lt_irrefl, decide_false, cond_false])
  refine ⟨h1, ?_⟩
  rcases h2 with ⟨h, h3⟩ | ⟨j, hj, hp, _, h4⟩
  · exact .inl ⟨valG_good.2 fun i hi => (bdG_one hn hi).1 (h i hi), h3⟩
  · refine .inr ⟨fun hv => ?_, j, h4⟩
    have := (bdG_one hn hj).2 (valG_good.1 hv j hj)
    rw [this] at hp; cases hp
set_option maxRecDepth 100000 in
theorem gvac_tree (R : (Ty.list (.prod (.int .i64) (.list (.prod (.int .i64) (.int .i64))))).den) : evalF Try.prog rgA_S59 (opens []) rgA_L61 9 53 [.ag [.d false false (.prod (.int .i64) (.list (.prod (.int .i64) (.int .i64)))) R]] = .br (((gva_cond (R, (↑(List.length R) : Int), R) (false, (0 : Int))) && (bif Nat.beq (Prod.fst (gva_g (R, (↑(List.length R) : Int), R) (false, (0 : Int)))) (0 : Nat) then true else (Nat.beq (Prod.fst (gva_g (R, (↑(List.length R) : Int), R) (false, (0 : Int)))) (1 : Nat))))) (.ret (.one (.v false (.bool (bif Nat.beq (Prod.fst (gva_g (R, (↑(List.length R) : Int), R) (false, (0 : Int)))) (0 : Nat) then Prod.fst (Prod.snd (gva_g (R, (↑(List.length R) : Int), R) (false, (0 : Int)))) else true))))) (.bad 116) := by kernel_rfl
theorem gvac_val (R : (Ty.list (.prod (.int .i64) (.list (.prod (.int .i64) (.int .i64))))).den) (hc : (szG R) = true) : (.br (((gva_cond (R, (↑(List.length R) : Int), R) (false, (0 : Int))) && (bif Nat.beq (Prod.fst (gva_g (R, (↑(List.length R) : Int), R) (false, (0 : Int)))) (0 : Nat) then true else (Nat.beq (Prod.fst (gva_g (R, (↑(List.length R) : Int), R) (false, (0 : Int)))) (1 : Nat))))) (.ret (.one (.v false (.bool (bif Nat.beq (Prod.fst (gva_g (R, (↑(List.length R) : Int), R) (false, (0 : Int)))) (0 : Nat) then Prod.fst (Prod.snd (gva_g (R, (↑(List.length R) : Int), R) (false, (0 : Int)))) else true))))) (.bad 116) : Tr AV).val = some (.one (.v false (.bool (valGB R)))) := by
  obtain ⟨K, rfl⟩ : ∃ K : Rg, K = R := ⟨R, rfl⟩
  obtain ⟨v1, v2⟩ := gva_run (R := K) hc
  show cond _ _ _ = _
  rcases v2 with ⟨h, g⟩ | ⟨h, j, g⟩
  · simp [v1, g, valGB_t h, Nat.beq, Tr.val]
  · simp [v1, g, valGB_f h, Nat.beq, Tr.val]
noncomputable def gvac_g : List AV → Option (Tr AV)
  | [.ag [.d _ _ (.prod (.int .i64) (.list (.prod (.int .i64) (.int .i64)))) R]] => some (.br (szG R) (.ret (.one (.v false (.bool (valGB R))))) (.bad 900))
  | _ => none
set_option maxHeartbeats 4000000 in
theorem gvac_ok : FunOK Try.prog 53 gvac_g := by
  refine fun_ok (by kernel_rfl) (rgA_S59_ok) (rgA_L61_ok) 9 (On := (opens [])) (fun args t h => ?_)
  unfold gvac_g at h
  split at h
  · rename_i _ _ R
    simp only [Option.some.injEq] at h
    subst h
    refine ⟨[.ag [.d false false (.prod (.int .i64) (.list (.prod (.int .i64) (.int .i64)))) R]], rfl, fun fr w us h => h, fun r hr => ?_⟩
    obtain ⟨hc, hr⟩ := br_bad hr
    simp only [Tr.val, Option.some.injEq] at hr
    subst hr
    rw [gvac_tree]
    exact gvac_val R hc
  · cases h
noncomputable def rgB_S51 : Sums := addS 53 gvac_g rgA_S59
theorem rgB_S51_ok : SumOK Try.prog rgB_S51 := addS_ok (gvac_ok) (rgA_S59_ok)
set_option maxRecDepth 100000 in
theorem gvbc_tree (R : (Ty.list (.prod (.int .i64) (.list (.prod (.int .i64) (.int .i64))))).den) : evalF Try.prog rgB_S51 (opens []) rgA_L61 9 48 [.ag [.d false false (.prod (.int .i64) (.list (.prod (.int .i64) (.int .i64)))) R]] = .br (((gvb_cond R (false, (0 : Int))) && (bif Nat.beq (Prod.fst (gvb_g R (false, (0 : Int)))) (0 : Nat) then true else (Nat.beq (Prod.fst (gvb_g R (false, (0 : Int)))) (1 : Nat))))) (.ret (.one (.v false (.bool (bif Nat.beq (Prod.fst (gvb_g R (false, (0 : Int)))) (0 : Nat) then Prod.fst (Prod.snd (gvb_g R (false, (0 : Int)))) else true))))) (.bad 116) := by kernel_rfl
theorem gvbc_val (R : (Ty.list (.prod (.int .i64) (.list (.prod (.int .i64) (.int .i64))))).den) (hc : (szG R) = true) : (.br (((gvb_cond R (false, (0 : Int))) && (bif Nat.beq (Prod.fst (gvb_g R (false, (0 : Int)))) (0 : Nat) then true else (Nat.beq (Prod.fst (gvb_g R (false, (0 : Int)))) (1 : Nat))))) (.ret (.one (.v false (.bool (bif Nat.beq (Prod.fst (gvb_g R (false, (0 : Int)))) (0 : Nat) then Prod.fst (Prod.snd (gvb_g R (false, (0 : Int)))) else true))))) (.bad 116) : Tr AV).val = some (.one (.v false (.bool (valGB R)))) := by
  obtain ⟨K, rfl⟩ : ∃ K : Rg, K = R := ⟨R, rfl⟩
  obtain ⟨v1, v2⟩ := gvb_run (R := K) hc
  show cond _ _ _ = _
  rcases v2 with ⟨h, g⟩ | ⟨h, j, g⟩
  · simp [v1, g, valGB_t h, Nat.beq, Tr.val]
  · simp [v1, g, valGB_f h, Nat.beq, Tr.val]
set_option maxHeartbeats 4000000 in
theorem gvbc_ok : FunOK Try.prog 48 gvac_g := by
  refine fun_ok (by kernel_rfl) (rgB_S51_ok) (rgA_L61_ok) 9 (On := (opens [])) (fun args t h => ?_)
  unfold gvac_g at h
  split at h
  · rename_i _ _ R
    simp only [Option.some.injEq] at h
    subst h
    refine ⟨[.ag [.d false false (.prod (.int .i64) (.list (.prod (.int .i64) (.int .i64)))) R]], rfl, fun fr w us h => h, fun r hr => ?_⟩
    obtain ⟨hc, hr⟩ := br_bad hr
    simp only [Tr.val, Option.some.injEq] at hr
    subst hr
    rw [gvbc_tree]
    exact gvbc_val R hc
  · cases h
noncomputable def rgB_S52 : Sums := addS 48 gvac_g rgB_S51
theorem rgB_S52_ok : SumOK Try.prog rgB_S52 := addS_ok (gvbc_ok) (rgB_S51_ok)
abbrev cta_U : Type := Int × (Ty.list (.prod (.int .i64) (.list (.prod (.int .i64) (.int .i64))))).den × Int
noncomputable def cta_St (u : cta_U) (v : lna_V) : Stt := ⟨[.one .junk, .one .junk, .one (.v false (.int .i64 u.1)), .one (.v false (.int .i64 v.1)), .one .junk, .one .junk, .one .junk, .one .junk, .one .junk, .one .junk, .one (.d false false (.prod (.int .i64) (.list (.prod (.int .i64) (.int .i64)))) u.2.1), .one (.v false (.int .i64 u.2.2)), .one (.v false (.int .i64 v.2)), .one .junk, .one .junk, .one .junk, .one .junk, .one .junk, .one .junk, .one .junk, .one .junk, .one .junk, .one .junk], [(0, .dead)], 1010⟩
noncomputable def cta_step (u : cta_U) (v : lna_V) : Tr (lna_V ⊕ (Nat × lna_V)) :=
  match u, v with
  | (_, q2, q3), (q1, q4) => .br (decide (q4 < q3)) (.br (decide ((0 : Int) ≤ q4) && decide (q4 < (↑(List.length q2) : Int))) (.br (decide (List.length (Prod.snd (el_ilii q2 q4)) ≤ (100000 : Nat))) (.ret (.inl (IntKind.wrap .i64 (q1 + lenV (Prod.snd (el_ilii q2 q4))), IntKind.wrap .i64 (q4 + (1 : Int))))) (.bad 900)) (.bad 29)) (.ret (.inr (0, (q1, q4))))
set_option maxRecDepth 100000 in
set_option maxHeartbeats 4000000 in
theorem cta_step_eq : ∀ (u : cta_U) (v : lna_V), (evalC Try.prog (evalB Try.prog rgB_S52 (opens []) rgA_L61 7).1 (evalB Try.prog rgB_S52 (opens []) rgA_L61 7).2 (opens []) (rgA_L61 41) 100000 (0 :: [0, 1, 0, 1, 1, 1]) (loopOf (bodyOf Try.prog 41) [1, 1, 1, 0, 1, 0]) (cta_St u v) []).bind (finF [0, 1, 4, 5, 6, 7, 8, 9, 13, 14, 15, 16, 17, 18, 19, 20, 21, 22] [] [0] [0] 1010) = (cta_step u v).bind (outA (cta_St u) [.exit 0]) := by
  rintro ⟨q0, q2, q3⟩ ⟨q1, q4⟩
  kernel_rfl
noncomputable def cta_rd (b : Bool) (o2 : Option AV) (o3 : Option AV) (o10 : Option AV) (o11 : Option AV) (o12 : Option AV) (own : Own) : Option (cta_U × lna_V) := zrT b <| zrO o2 fun za1 => zrA1 za1 fun zc2 => zrI .i64 zc2 fun q0 => zrO o3 fun za3 => zrA1 za3 fun zc4 => zrI .i64 zc4 fun q1 => zrO o10 fun za5 => zrA1 za5 fun zc6 => zrD (.prod (.int .i64) (.list (.prod (.int .i64) (.int .i64)))) zc6 fun q2 => zrO o11 fun za7 => zrA1 za7 fun zc8 => zrI .i64 zc8 fun q3 => zrO o12 fun za9 => zrA1 za9 fun zc10 => zrI .i64 zc10 fun q4 => zrL own fun zq11 zw12 => zrKey 0 zq11 fun zk13 => zrX zk13 <| zrN zw12 <| some ((q0, q2, q3), (q1, q4))
noncomputable def cta_can (st : Stt) : Stt := canA [0, 1, 4, 5, 6, 7, 8, 9, 13, 14, 15, 16, 17, 18, 19, 20, 21, 22] [] [0] [0] 1010 st
noncomputable def cta_cok (st : Stt) : Bool := canAok [0, 1, 4, 5, 6, 7, 8, 9, 13, 14, 15, 16, 17, 18, 19, 20, 21, 22] [] [0] [0] 1010 st
noncomputable def cta_read (st : Stt) : Option (cta_U × lna_V) := cta_rd (cta_cok st && (staysA [] [0] st.own && juAll [0, 1, 4, 5, 6, 7, 8, 9, 13, 14, 15, 16, 17, 18, 19, 20, 21, 22] (cta_can st).tm 23)) (cta_can st).tm[2]? (cta_can st).tm[3]? (cta_can st).tm[10]? (cta_can st).tm[11]? (cta_can st).tm[12]? (cta_can st).own
set_option maxRecDepth 100000 in
set_option maxHeartbeats 4000000 in
theorem cta_rd_ok {b : Bool} {tm : List AV} {own : Own} {u : cta_U} {v : lna_V} (hj : b = true → juAll [0, 1, 4, 5, 6, 7, 8, 9, 13, 14, 15, 16, 17, 18, 19, 20, 21, 22] tm 23 = true) (h : cta_rd b tm[2]? tm[3]? tm[10]? tm[11]? tm[12]? own = some (u, v)) : b = true ∧ tm = (cta_St u v).tm ∧ own = (cta_St u v).own := by
  unfold cta_rd at h
  obtain ⟨rfl, h0⟩ := zrT_some h
  obtain ⟨za1, e2, h1⟩ := zrO_some h0
  obtain ⟨zc2, rfl, h2⟩ := zrA1_some h1
  obtain ⟨q0, rfl, h3⟩ := zrI_some h2
  obtain ⟨za3, e3, h4⟩ := zrO_some h3
  obtain ⟨zc4, rfl, h5⟩ := zrA1_some h4
  obtain ⟨q1, rfl, h6⟩ := zrI_some h5
  obtain ⟨za5, e10, h7⟩ := zrO_some h6
  obtain ⟨zc6, rfl, h8⟩ := zrA1_some h7
  obtain ⟨q2, rfl, h9⟩ := zrD_some h8
  obtain ⟨za7, e11, h10⟩ := zrO_some h9
  obtain ⟨zc8, rfl, h11⟩ := zrA1_some h10
  obtain ⟨q3, rfl, h12⟩ := zrI_some h11
  obtain ⟨za9, e12, h13⟩ := zrO_some h12
  obtain ⟨zc10, rfl, h14⟩ := zrA1_some h13
  obtain ⟨q4, rfl, h15⟩ := zrI_some h14
  obtain ⟨zq11, zw12, rfl, h16⟩ := zrL_some h15
  obtain ⟨zk13, rfl, h17⟩ := zrKey_some h16
  obtain ⟨rfl, h18⟩ := zrX_some h17
  obtain ⟨rfl, h19⟩ := zrN_some h18
  have h := Option.some.inj h19
  have hu := congrArg Prod.fst h
  have hv := congrArg Prod.snd h
  dsimp only at hu hv
  subst hu
  subst hv
  exact ⟨rfl, (tm_fill (hj rfl) (Lv := [(2, .one (.v false (.int .i64 q0))), (3, .one (.v false (.int .i64 q1))), (10, .one (.d false false (.prod (.int .i64) (.list (.prod (.int .i64) (.int .i64)))) q2)), (11, .one (.v false (.int .i64 q3))), (12, .one (.v false (.int .i64 q4)))]) (by kernel_rfl) ⟨e2, e3, e10, e11, e12, trivial⟩).trans (by kernel_rfl), rfl⟩
theorem cta_read_ok (st : Stt) (u : cta_U) (v : lna_V) (h : cta_read st = some (u, v)) : cta_cok st = true ∧ staysA [] [0] st.own = true ∧ cta_can st = cta_St u v := by
  obtain ⟨h1, h2, h3⟩ := cta_rd_ok (fun hb => by rw [Bool.and_eq_true, Bool.and_eq_true] at hb; exact hb.2.2) h
  rw [Bool.and_eq_true, Bool.and_eq_true] at h1
  refine ⟨h1.1, h1.2.1, ?_⟩
  have e : cta_can st = ⟨(cta_can st).tm, (cta_can st).own, 1010⟩ := by kernel_rfl
  rw [e, h2, h3]
  rfl
noncomputable def cta_cond (u : cta_U) (v : lna_V) : Bool := runC (cta_step u) v
noncomputable def cta_g (u : cta_U) (v : lna_V) : Nat × lna_V := runG (cta_step u) v
theorem cta_hg : ∀ (u : cta_U) (v : lna_V), cta_cond u v = true → loopN (cta_step u) ((fun u v => runF (cta_step u) v) u v) v = some (cta_g u v) := by
  exact fun u v h => run_hg h
noncomputable def cta_m (st : Stt) : Option (Tr (Ex × Stt)) := sumM cta_read cta_cond cta_St cta_g [(0, .exit 0)] st
noncomputable def rgB_L53 : FuncId → Loops := addL 41 [0, 1, 0, 1, 1, 1] cta_m rgA_L61
set_option maxRecDepth 100000 in
set_option maxHeartbeats 4000000 in
theorem rgB_L53_ok : LoopsOK Try.prog rgB_L53 :=
  loop_sumF (body := (bodyOf Try.prog 41)) (c := (loopOf (bodyOf Try.prog 41) [1, 1, 1, 0, 1, 0])) (kinds := [.exit 0]) (allow := [(0, .exit 0)]) (St := cta_St) (step := cta_step) (W := [0, 1, 4, 5, 6, 7, 8, 9, 13, 14, 15, 16, 17, 18, 19, 20, 21, 22]) (As := []) (ks := [0]) (dd := [0]) (nx := 1010) (n := 100000) (g := cta_g) (cond := cta_cond) (fuel := (fun u v => runF (cta_step u) v)) (read := cta_read) (by kernel_rfl) (rgB_S52_ok) (rgA_L61_ok) 7 ⟨Try.f41, by kernel_rfl, by kernel_rfl⟩ (by kernel_rfl) (by kernel_rfl) (by kernel_rfl) cta_step_eq cta_hg cta_read_ok
abbrev ctb1_U : Type := Int × Int × (Ty.list (.prod (.int .i64) (.list (.prod (.int .i64) (.int .i64))))).den
noncomputable def ctb1_St (u : ctb1_U) (v : lna_V) : Stt := ⟨[.one .junk, .one (.p 0 0), .one (.v false (.int .i64 u.1)), .one (.v false (.int .i64 v.1)), .one (.v false (.int .i64 u.2.1)), .one (.v false (.int .i64 v.2)), .one .junk, .one .junk, .one .junk, .one .junk, .one .junk, .one .junk, .one .junk, .one .junk, .one .junk, .one .junk, .one .junk, .one .junk, .one .junk, .one .junk, .one .junk, .one .junk, .one .junk, .one .junk, .one .junk, .one .junk, .one .junk, .one .junk, .one .junk, .one .junk, .one .junk, .one .junk, .one .junk, .one .junk, .one .junk, .one .junk, .one .junk, .one .junk, .one .junk, .one .junk, .one .junk, .one .junk, .one .junk, .one .junk, .one .junk, .one .junk, .one .junk, .one .junk, .one .junk, .one .junk, .one .junk, .one .junk], [(0, .cells [.d false false (.prod (.int .i64) (.list (.prod (.int .i64) (.int .i64)))) u.2.2])], 2013⟩
noncomputable def ctb1_step (u : ctb1_U) (v : lna_V) : Tr (lna_V ⊕ (Nat × lna_V)) :=
  match u, v with
  | (_, q2, q4), (q1, q3) => .br (decide ((0 : Int) ≤ q2) && decide (q2 < (↑(List.length q4) : Int))) (.br (decide (q3 < (↑(List.length (Prod.snd (el_ilii q4 q2))) : Int))) (.br (decide ((0 : Int) ≤ q2) && decide (q2 < (↑(List.length q4) : Int))) (.br (decide ((0 : Int) ≤ q3) && decide (q3 < (↑(List.length (Prod.snd (el_ilii q4 q2))) : Int))) (.br (decide ((0 : Int) ≤ q2) && decide (q2 < (↑(List.length q4) : Int))) (.br (decide ((0 : Int) ≤ q3) && decide (q3 < (↑(List.length (Prod.snd (el_ilii q4 q2))) : Int))) (.ret (.inl (IntKind.wrap .i64 (q1 + IntKind.wrap .i64 (Prod.snd (el_ii (Prod.snd (el_ilii q4 q2)) q3) - Prod.fst (el_ii (Prod.snd (el_ilii q4 q2)) q3))), IntKind.wrap .i64 (q3 + (1 : Int))))) (.bad 29)) (.bad 29)) (.bad 29)) (.bad 29)) (.ret (.inr (0, (q1, q3))))) (.bad 29)
set_option maxRecDepth 100000 in
set_option maxHeartbeats 4000000 in
theorem ctb1_step_eq : ∀ (u : ctb1_U) (v : lna_V), (evalC Try.prog (evalB Try.prog rgB_S52 (opens []) rgB_L53 7).1 (evalB Try.prog rgB_S52 (opens []) rgB_L53 7).2 (opens []) (rgB_L53 42) 100000 (0 :: [0, 1, 0, 0, 1, 0, 0, 1, 0, 1, 1, 1]) (loopOf (bodyOf Try.prog 42) [1, 1, 1, 0, 1, 0, 0, 1, 0, 0, 1, 0]) (ctb1_St u v) []).bind (finF [0, 6, 7, 8, 9, 10, 11, 12, 13, 14, 15, 16, 17, 18, 19, 20, 21, 22, 23, 24, 25, 26, 27, 28, 29, 30, 31, 32, 33, 34, 35, 36, 37, 38, 39, 40, 41, 42, 43, 44, 45, 46, 47, 48, 49, 50, 51] [] [0] [] 2013) = (ctb1_step u v).bind (outA (ctb1_St u) [.exit 2]) := by
  rintro ⟨q0, q2, q4⟩ ⟨q1, q3⟩
  kernel_rfl
noncomputable def ctb1_rd (b : Bool) (o1 : Option AV) (o2 : Option AV) (o3 : Option AV) (o4 : Option AV) (o5 : Option AV) (own : Own) : Option (ctb1_U × lna_V) := zrT b <| zrO o1 fun za1 => zrA1 za1 fun zc2 => zrP 0 0 zc2 <| zrO o2 fun za3 => zrA1 za3 fun zc4 => zrI .i64 zc4 fun q0 => zrO o3 fun za5 => zrA1 za5 fun zc6 => zrI .i64 zc6 fun q1 => zrO o4 fun za7 => zrA1 za7 fun zc8 => zrI .i64 zc8 fun q2 => zrO o5 fun za9 => zrA1 za9 fun zc10 => zrI .i64 zc10 fun q3 => zrL own fun zq11 zw12 => zrKey 0 zq11 fun zk13 => zrC zk13 fun zl14 => zrL zl14 fun zc15 zr16 => zrD (.prod (.int .i64) (.list (.prod (.int .i64) (.int .i64)))) zc15 fun q4 => zrN zr16 <| zrN zw12 <| some ((q0, q2, q4), (q1, q3))
noncomputable def ctb1_can (st : Stt) : Stt := canA [0, 6, 7, 8, 9, 10, 11, 12, 13, 14, 15, 16, 17, 18, 19, 20, 21, 22, 23, 24, 25, 26, 27, 28, 29, 30, 31, 32, 33, 34, 35, 36, 37, 38, 39, 40, 41, 42, 43, 44, 45, 46, 47, 48, 49, 50, 51] [] [0] [] 2013 st
noncomputable def ctb1_cok (st : Stt) : Bool := canAok [0, 6, 7, 8, 9, 10, 11, 12, 13, 14, 15, 16, 17, 18, 19, 20, 21, 22, 23, 24, 25, 26, 27, 28, 29, 30, 31, 32, 33, 34, 35, 36, 37, 38, 39, 40, 41, 42, 43, 44, 45, 46, 47, 48, 49, 50, 51] [] [0] [] 2013 st
noncomputable def ctb1_read (st : Stt) : Option (ctb1_U × lna_V) := ctb1_rd (ctb1_cok st && (staysA [] [0] st.own && juAll [0, 6, 7, 8, 9, 10, 11, 12, 13, 14, 15, 16, 17, 18, 19, 20, 21, 22, 23, 24, 25, 26, 27, 28, 29, 30, 31, 32, 33, 34, 35, 36, 37, 38, 39, 40, 41, 42, 43, 44, 45, 46, 47, 48, 49, 50, 51] (ctb1_can st).tm 52)) (ctb1_can st).tm[1]? (ctb1_can st).tm[2]? (ctb1_can st).tm[3]? (ctb1_can st).tm[4]? (ctb1_can st).tm[5]? (ctb1_can st).own
set_option maxRecDepth 100000 in
set_option maxHeartbeats 4000000 in
theorem ctb1_rd_ok {b : Bool} {tm : List AV} {own : Own} {u : ctb1_U} {v : lna_V} (hj : b = true → juAll [0, 6, 7, 8, 9, 10, 11, 12, 13, 14, 15, 16, 17, 18, 19, 20, 21, 22, 23, 24, 25, 26, 27, 28, 29, 30, 31, 32, 33, 34, 35, 36, 37, 38, 39, 40, 41, 42, 43, 44, 45, 46, 47, 48, 49, 50, 51] tm 52 = true) (h : ctb1_rd b tm[1]? tm[2]? tm[3]? tm[4]? tm[5]? own = some (u, v)) : b = true ∧ tm = (ctb1_St u v).tm ∧ own = (ctb1_St u v).own := by
  unfold ctb1_rd at h
  obtain ⟨rfl, h0⟩ := zrT_some h
  obtain ⟨za1, e1, h1⟩ := zrO_some h0
  obtain ⟨zc2, rfl, h2⟩ := zrA1_some h1
  obtain ⟨rfl, h3⟩ := zrP_some h2
  obtain ⟨za3, e2, h4⟩ := zrO_some h3
  obtain ⟨zc4, rfl, h5⟩ := zrA1_some h4
  obtain ⟨q0, rfl, h6⟩ := zrI_some h5
  obtain ⟨za5, e3, h7⟩ := zrO_some h6
  obtain ⟨zc6, rfl, h8⟩ := zrA1_some h7
  obtain ⟨q1, rfl, h9⟩ := zrI_some h8
  obtain ⟨za7, e4, h10⟩ := zrO_some h9
  obtain ⟨zc8, rfl, h11⟩ := zrA1_some h10
  obtain ⟨q2, rfl, h12⟩ := zrI_some h11
  obtain ⟨za9, e5, h13⟩ := zrO_some h12
  obtain ⟨zc10, rfl, h14⟩ := zrA1_some h13
  obtain ⟨q3, rfl, h15⟩ := zrI_some h14
  obtain ⟨zq11, zw12, rfl, h16⟩ := zrL_some h15
  obtain ⟨zk13, rfl, h17⟩ := zrKey_some h16
  obtain ⟨zl14, rfl, h18⟩ := zrC_some h17
  obtain ⟨zc15, zr16, rfl, h19⟩ := zrL_some h18
  obtain ⟨q4, rfl, h20⟩ := zrD_some h19
  obtain ⟨rfl, h21⟩ := zrN_some h20
  obtain ⟨rfl, h22⟩ := zrN_some h21
  have h := Option.some.inj h22
  have hu := congrArg Prod.fst h
  have hv := congrArg Prod.snd h
  dsimp only at hu hv
  subst hu
  subst hv
  exact ⟨rfl, (tm_fill (hj rfl) (Lv := [(1, .one (.p 0 0)), (2, .one (.v false (.int .i64 q0))), (3, .one (.v false (.int .i64 q1))), (4, .one (.v false (.int .i64 q2))), (5, .one (.v false (.int .i64 q3)))]) (by kernel_rfl) ⟨e1, e2, e3, e4, e5, trivial⟩).trans (by kernel_rfl), rfl⟩
theorem ctb1_read_ok (st : Stt) (u : ctb1_U) (v : lna_V) (h : ctb1_read st = some (u, v)) : ctb1_cok st = true ∧ staysA [] [0] st.own = true ∧ ctb1_can st = ctb1_St u v := by
  obtain ⟨h1, h2, h3⟩ := ctb1_rd_ok (fun hb => by rw [Bool.and_eq_true, Bool.and_eq_true] at hb; exact hb.2.2) h
  rw [Bool.and_eq_true, Bool.and_eq_true] at h1
  refine ⟨h1.1, h1.2.1, ?_⟩
  have e : ctb1_can st = ⟨(ctb1_can st).tm, (ctb1_can st).own, 2013⟩ := by kernel_rfl
  rw [e, h2, h3]
  rfl
noncomputable def ctb1_cond (u : ctb1_U) (v : lna_V) : Bool := runC (ctb1_step u) v
noncomputable def ctb1_g (u : ctb1_U) (v : lna_V) : Nat × lna_V := runG (ctb1_step u) v
theorem ctb1_hg : ∀ (u : ctb1_U) (v : lna_V), ctb1_cond u v = true → loopN (ctb1_step u) ((fun u v => runF (ctb1_step u) v) u v) v = some (ctb1_g u v) := by
  exact fun u v h => run_hg h
noncomputable def ctb1_m (st : Stt) : Option (Tr (Ex × Stt)) := sumM ctb1_read ctb1_cond ctb1_St ctb1_g [(0, .exit 2)] st
noncomputable def rgB_L54 : FuncId → Loops := addL 42 [0, 1, 0, 0, 1, 0, 0, 1, 0, 1, 1, 1] ctb1_m rgB_L53
set_option maxRecDepth 100000 in
set_option maxHeartbeats 4000000 in
theorem rgB_L54_ok : LoopsOK Try.prog rgB_L54 :=
  loop_sumF (body := (bodyOf Try.prog 42)) (c := (loopOf (bodyOf Try.prog 42) [1, 1, 1, 0, 1, 0, 0, 1, 0, 0, 1, 0])) (kinds := [.exit 2]) (allow := [(0, .exit 2)]) (St := ctb1_St) (step := ctb1_step) (W := [0, 6, 7, 8, 9, 10, 11, 12, 13, 14, 15, 16, 17, 18, 19, 20, 21, 22, 23, 24, 25, 26, 27, 28, 29, 30, 31, 32, 33, 34, 35, 36, 37, 38, 39, 40, 41, 42, 43, 44, 45, 46, 47, 48, 49, 50, 51]) (As := []) (ks := [0]) (dd := []) (nx := 2013) (n := 100000) (g := ctb1_g) (cond := ctb1_cond) (fuel := (fun u v => runF (ctb1_step u) v)) (read := ctb1_read) (by kernel_rfl) (rgB_S52_ok) (rgB_L53_ok) 7 ⟨Try.f42, by kernel_rfl, by kernel_rfl⟩ (by kernel_rfl) (by kernel_rfl) (by kernel_rfl) ctb1_step_eq ctb1_hg ctb1_read_ok
abbrev ctb0_U : Type := Int × (Ty.list (.prod (.int .i64) (.list (.prod (.int .i64) (.int .i64))))).den
noncomputable def ctb0_St (u : ctb0_U) (v : lna_V) : Stt := ⟨[.one .junk, .one (.p 0 0), .one (.v false (.int .i64 u.1)), .one (.v false (.int .i64 v.1)), .one (.v false (.int .i64 v.2)), .one .junk, .one .junk, .one .junk, .one .junk, .one .junk, .one .junk, .one .junk, .one .junk, .one .junk, .one .junk, .one .junk, .one .junk, .one .junk, .one .junk, .one .junk, .one .junk, .one .junk, .one .junk, .one .junk, .one .junk, .one .junk, .one .junk, .one .junk, .one .junk, .one .junk, .one .junk, .one .junk, .one .junk, .one .junk, .one .junk, .one .junk, .one .junk, .one .junk, .one .junk, .one .junk, .one .junk, .one .junk, .one .junk, .one .junk, .one .junk, .one .junk, .one .junk, .one .junk, .one .junk, .one .junk, .one .junk, .one .junk], [(0, .cells [.d false false (.prod (.int .i64) (.list (.prod (.int .i64) (.int .i64)))) u.2])], 1007⟩
noncomputable def ctb0_step (u : ctb0_U) (v : lna_V) : Tr (lna_V ⊕ (Nat × lna_V)) :=
  match u, v with
  | (q0, q3), (q1, q2) => .br (decide (q2 < (↑(List.length q3) : Int))) (.br (ctb1_cond (q0, q2, q3) (q1, (0 : Int))) (.br (Nat.beq (Prod.fst (ctb1_g (q0, q2, q3) (q1, (0 : Int)))) (0 : Nat)) (.ret (.inl (Prod.fst (Prod.snd (ctb1_g (q0, q2, q3) (q1, (0 : Int)))), IntKind.wrap .i64 (q2 + (1 : Int))))) (.bad 902)) (.bad 901)) (.ret (.inr (0, (q1, q2))))
set_option maxRecDepth 100000 in
set_option maxHeartbeats 4000000 in
theorem ctb0_step_eq : ∀ (u : ctb0_U) (v : lna_V), (evalC Try.prog (evalB Try.prog rgB_S52 (opens []) rgB_L54 7).1 (evalB Try.prog rgB_S52 (opens []) rgB_L54 7).2 (opens []) (rgB_L54 42) 100000 (0 :: [0, 1, 0, 1, 1, 1]) (loopOf (bodyOf Try.prog 42) [1, 1, 1, 0, 1, 0]) (ctb0_St u v) []).bind (finF [0, 5, 6, 7, 8, 9, 10, 11, 12, 13, 14, 15, 16, 17, 18, 19, 20, 21, 22, 23, 24, 25, 26, 27, 28, 29, 30, 31, 32, 33, 34, 35, 36, 37, 38, 39, 40, 41, 42, 43, 44, 45, 46, 47, 48, 49, 50, 51] [] [0] [] 1007) = (ctb0_step u v).bind (outA (ctb0_St u) [.exit 0]) := by
  rintro ⟨q0, q3⟩ ⟨q1, q2⟩
  kernel_rfl
noncomputable def ctb0_rd (b : Bool) (o1 : Option AV) (o2 : Option AV) (o3 : Option AV) (o4 : Option AV) (own : Own) : Option (ctb0_U × lna_V) := zrT b <| zrO o1 fun za1 => zrA1 za1 fun zc2 => zrP 0 0 zc2 <| zrO o2 fun za3 => zrA1 za3 fun zc4 => zrI .i64 zc4 fun q0 => zrO o3 fun za5 => zrA1 za5 fun zc6 => zrI .i64 zc6 fun q1 => zrO o4 fun za7 => zrA1 za7 fun zc8 => zrI .i64 zc8 fun q2 => zrL own fun zq9 zw10 => zrKey 0 zq9 fun zk11 => zrC zk11 fun zl12 => zrL zl12 fun zc13 zr14 => zrD (.prod (.int .i64) (.list (.prod (.int .i64) (.int .i64)))) zc13 fun q3 => zrN zr14 <| zrN zw10 <| some ((q0, q3), (q1, q2))
noncomputable def ctb0_can (st : Stt) : Stt := canA [0, 5, 6, 7, 8, 9, 10, 11, 12, 13, 14, 15, 16, 17, 18, 19, 20, 21, 22, 23, 24, 25, 26, 27, 28, 29, 30, 31, 32, 33, 34, 35, 36, 37, 38, 39, 40, 41, 42, 43, 44, 45, 46, 47, 48, 49, 50, 51] [] [0] [] 1007 st
noncomputable def ctb0_cok (st : Stt) : Bool := canAok [0, 5, 6, 7, 8, 9, 10, 11, 12, 13, 14, 15, 16, 17, 18, 19, 20, 21, 22, 23, 24, 25, 26, 27, 28, 29, 30, 31, 32, 33, 34, 35, 36, 37, 38, 39, 40, 41, 42, 43, 44, 45, 46, 47, 48, 49, 50, 51] [] [0] [] 1007 st
noncomputable def ctb0_read (st : Stt) : Option (ctb0_U × lna_V) := ctb0_rd (ctb0_cok st && (staysA [] [0] st.own && juAll [0, 5, 6, 7, 8, 9, 10, 11, 12, 13, 14, 15, 16, 17, 18, 19, 20, 21, 22, 23, 24, 25, 26, 27, 28, 29, 30, 31, 32, 33, 34, 35, 36, 37, 38, 39, 40, 41, 42, 43, 44, 45, 46, 47, 48, 49, 50, 51] (ctb0_can st).tm 52)) (ctb0_can st).tm[1]? (ctb0_can st).tm[2]? (ctb0_can st).tm[3]? (ctb0_can st).tm[4]? (ctb0_can st).own
set_option maxRecDepth 100000 in
set_option maxHeartbeats 4000000 in
theorem ctb0_rd_ok {b : Bool} {tm : List AV} {own : Own} {u : ctb0_U} {v : lna_V} (hj : b = true → juAll [0, 5, 6, 7, 8, 9, 10, 11, 12, 13, 14, 15, 16, 17, 18, 19, 20, 21, 22, 23, 24, 25, 26, 27, 28, 29, 30, 31, 32, 33, 34, 35, 36, 37, 38, 39, 40, 41, 42, 43, 44, 45, 46, 47, 48, 49, 50, 51] tm 52 = true) (h : ctb0_rd b tm[1]? tm[2]? tm[3]? tm[4]? own = some (u, v)) : b = true ∧ tm = (ctb0_St u v).tm ∧ own = (ctb0_St u v).own := by
  unfold ctb0_rd at h
  obtain ⟨rfl, h0⟩ := zrT_some h
  obtain ⟨za1, e1, h1⟩ := zrO_some h0
  obtain ⟨zc2, rfl, h2⟩ := zrA1_some h1
  obtain ⟨rfl, h3⟩ := zrP_some h2
  obtain ⟨za3, e2, h4⟩ := zrO_some h3
  obtain ⟨zc4, rfl, h5⟩ := zrA1_some h4
  obtain ⟨q0, rfl, h6⟩ := zrI_some h5
  obtain ⟨za5, e3, h7⟩ := zrO_some h6
  obtain ⟨zc6, rfl, h8⟩ := zrA1_some h7
  obtain ⟨q1, rfl, h9⟩ := zrI_some h8
  obtain ⟨za7, e4, h10⟩ := zrO_some h9
  obtain ⟨zc8, rfl, h11⟩ := zrA1_some h10
  obtain ⟨q2, rfl, h12⟩ := zrI_some h11
  obtain ⟨zq9, zw10, rfl, h13⟩ := zrL_some h12
  obtain ⟨zk11, rfl, h14⟩ := zrKey_some h13
  obtain ⟨zl12, rfl, h15⟩ := zrC_some h14
  obtain ⟨zc13, zr14, rfl, h16⟩ := zrL_some h15
  obtain ⟨q3, rfl, h17⟩ := zrD_some h16
  obtain ⟨rfl, h18⟩ := zrN_some h17
  obtain ⟨rfl, h19⟩ := zrN_some h18
  have h := Option.some.inj h19
  have hu := congrArg Prod.fst h
  have hv := congrArg Prod.snd h
  dsimp only at hu hv
  subst hu
  subst hv
  exact ⟨rfl, (tm_fill (hj rfl) (Lv := [(1, .one (.p 0 0)), (2, .one (.v false (.int .i64 q0))), (3, .one (.v false (.int .i64 q1))), (4, .one (.v false (.int .i64 q2)))]) (by kernel_rfl) ⟨e1, e2, e3, e4, trivial⟩).trans (by kernel_rfl), rfl⟩
theorem ctb0_read_ok (st : Stt) (u : ctb0_U) (v : lna_V) (h : ctb0_read st = some (u, v)) : ctb0_cok st = true ∧ staysA [] [0] st.own = true ∧ ctb0_can st = ctb0_St u v := by
  obtain ⟨h1, h2, h3⟩ := ctb0_rd_ok (fun hb => by rw [Bool.and_eq_true, Bool.and_eq_true] at hb; exact hb.2.2) h
  rw [Bool.and_eq_true, Bool.and_eq_true] at h1
  refine ⟨h1.1, h1.2.1, ?_⟩
  have e : ctb0_can st = ⟨(ctb0_can st).tm, (ctb0_can st).own, 1007⟩ := by kernel_rfl
  rw [e, h2, h3]
  rfl
noncomputable def ctb0_cond (u : ctb0_U) (v : lna_V) : Bool := runC (ctb0_step u) v
noncomputable def ctb0_g (u : ctb0_U) (v : lna_V) : Nat × lna_V := runG (ctb0_step u) v
theorem ctb0_hg : ∀ (u : ctb0_U) (v : lna_V), ctb0_cond u v = true → loopN (ctb0_step u) ((fun u v => runF (ctb0_step u) v) u v) v = some (ctb0_g u v) := by
  exact fun u v h => run_hg h
noncomputable def ctb0_m (st : Stt) : Option (Tr (Ex × Stt)) := sumM ctb0_read ctb0_cond ctb0_St ctb0_g [(0, .exit 0)] st
noncomputable def rgB_L55 : FuncId → Loops := addL 42 [0, 1, 0, 1, 1, 1] ctb0_m rgB_L54
set_option maxRecDepth 100000 in
set_option maxHeartbeats 4000000 in
theorem rgB_L55_ok : LoopsOK Try.prog rgB_L55 :=
  loop_sumF (body := (bodyOf Try.prog 42)) (c := (loopOf (bodyOf Try.prog 42) [1, 1, 1, 0, 1, 0])) (kinds := [.exit 0]) (allow := [(0, .exit 0)]) (St := ctb0_St) (step := ctb0_step) (W := [0, 5, 6, 7, 8, 9, 10, 11, 12, 13, 14, 15, 16, 17, 18, 19, 20, 21, 22, 23, 24, 25, 26, 27, 28, 29, 30, 31, 32, 33, 34, 35, 36, 37, 38, 39, 40, 41, 42, 43, 44, 45, 46, 47, 48, 49, 50, 51]) (As := []) (ks := [0]) (dd := []) (nx := 1007) (n := 100000) (g := ctb0_g) (cond := ctb0_cond) (fuel := (fun u v => runF (ctb0_step u) v)) (read := ctb0_read) (by kernel_rfl) (rgB_S52_ok) (rgB_L54_ok) 7 ⟨Try.f42, by kernel_rfl, by kernel_rfl⟩ (by kernel_rfl) (by kernel_rfl) (by kernel_rfl) ctb0_step_eq ctb0_hg ctb0_read_ok
abbrev sme1_U : Type := Int × Int × (Ty.list (.prod (.int .i64) (.int .i64))).den × Int × (Ty.list (.prod (.int .i64) (.int .i64))).den × (Ty.list (.prod (.int .i64) (.list (.prod (.int .i64) (.int .i64))))).den × (Ty.list (.prod (.int .i64) (.list (.prod (.int .i64) (.int .i64))))).den
noncomputable def sme1_St (u : sme1_U) (v : va_V) : Stt := ⟨[.one .junk, .one .junk, .one (.p 0 0), .one (.p 1 0), .one (.v false (.bool v.1)), .one (.v false (.int .i64 u.1)), .one (.p 1026 0), .one (.p 1027 0), .one (.v false (.int .i64 v.2)), .one .junk, .one .junk, .one .junk, .one .junk, .one .junk, .one .junk, .one .junk, .one .junk, .one .junk, .one .junk, .one .junk, .one .junk, .one .junk, .one .junk, .one .junk, .one .junk, .one .junk, .one .junk, .one .junk, .one .junk, .one .junk, .one .junk, .one .junk, .one .junk, .one .junk, .one .junk, .one .junk, .one .junk, .one .junk, .one .junk, .one .junk, .one .junk, .one .junk, .one .junk, .one .junk, .one .junk, .one .junk, .one .junk, .one .junk, .one .junk, .one .junk, .one .junk, .one .junk, .one .junk, .one .junk, .one .junk, .one .junk, .one .junk, .one .junk, .one .junk, .one .junk, .one .junk, .one .junk, .one .junk, .one .junk, .one .junk], [(1026, .cells [.v false (.int .i64 u.2.1), .d false false (.prod (.int .i64) (.int .i64)) u.2.2.1]), (1027, .cells [.v false (.int .i64 u.2.2.2.1), .d false false (.prod (.int .i64) (.int .i64)) u.2.2.2.2.1]), (1, .cells [.d false false (.prod (.int .i64) (.list (.prod (.int .i64) (.int .i64)))) u.2.2.2.2.2.1]), (0, .cells [.d false false (.prod (.int .i64) (.list (.prod (.int .i64) (.int .i64)))) u.2.2.2.2.2.2])], 2045⟩
noncomputable def sme1_step (u : sme1_U) (v : va_V) : Tr (va_V ⊕ (Nat × va_V)) :=
  match u, v with
  | (_, _, q4, _, q6, _, _), (q0, q2) => .br (decide (q2 < (↑(List.length q4) : Int))) (.br (decide ((0 : Int) ≤ q2) && decide (q2 < (↑(List.length q4) : Int))) (.br (decide ((0 : Int) ≤ q2) && decide (q2 < (↑(List.length q6) : Int))) (.br (!(Prod.fst (el_ii q4 q2) == Prod.fst (el_ii q6 q2) && (Prod.snd (el_ii q4 q2) == Prod.snd (el_ii q6 q2) && true))) (.ret (.inr (0, (false, q2)))) (.ret (.inl (q0, IntKind.wrap .i64 (q2 + (1 : Int)))))) (.bad 29)) (.bad 29)) (.ret (.inr (1, (q0, q2))))
set_option maxRecDepth 100000 in
set_option maxHeartbeats 4000000 in
theorem sme1_step_eq : ∀ (u : sme1_U) (v : va_V), (evalC Try.prog (evalB Try.prog rgB_S52 (opens []) rgB_L55 7).1 (evalB Try.prog rgB_S52 (opens []) rgB_L55 7).2 (opens []) (rgB_L55 16) 100000 (0 :: [0, 1, 1, 1, 0, 0, 1, 0, 0, 1, 0, 1, 1]) (loopOf (bodyOf Try.prog 16) [1, 1, 0, 1, 0, 0, 1, 0, 0, 1, 1, 1, 0]) (sme1_St u v) []).bind (finF [0, 1, 9, 10, 11, 12, 13, 14, 15, 16, 17, 18, 19, 20, 21, 22, 23, 24, 25, 26, 27, 28, 29, 30, 31, 32, 33, 34, 35, 36, 37, 38, 39, 40, 41, 42, 43, 44, 45, 46, 47, 48, 49, 50, 51, 52, 53, 54, 55, 56, 57, 58, 59, 60, 61, 62, 63, 64] [] [1026, 1027, 1, 0] [] 2045) = (sme1_step u v).bind (outA (sme1_St u) [.ret, .exit 2]) := by
  rintro ⟨q1, q3, q4, q5, q6, q7, q8⟩ ⟨q0, q2⟩
  kernel_rfl
noncomputable def sme1_rd (b : Bool) (o2 : Option AV) (o3 : Option AV) (o4 : Option AV) (o5 : Option AV) (o6 : Option AV) (o7 : Option AV) (o8 : Option AV) (own : Own) : Option (sme1_U × va_V) := zrT b <| zrO o2 fun za1 => zrA1 za1 fun zc2 => zrP 0 0 zc2 <| zrO o3 fun za3 => zrA1 za3 fun zc4 => zrP 1 0 zc4 <| zrO o4 fun za5 => zrA1 za5 fun zc6 => zrB zc6 fun q0 => zrO o5 fun za7 => zrA1 za7 fun zc8 => zrI .i64 zc8 fun q1 => zrO o6 fun za9 => zrA1 za9 fun zc10 => zrP 1026 0 zc10 <| zrO o7 fun za11 => zrA1 za11 fun zc12 => zrP 1027 0 zc12 <| zrO o8 fun za13 => zrA1 za13 fun zc14 => zrI .i64 zc14 fun q2 => zrL own fun zq15 zw16 => zrKey 1026 zq15 fun zk17 => zrC zk17 fun zl18 => zrL zl18 fun zc19 zr20 => zrI .i64 zc19 fun q3 => zrL zr20 fun zc21 zr22 => zrD (.prod (.int .i64) (.int .i64)) zc21 fun q4 => zrN zr22 <| zrL zw16 fun zq23 zw24 => zrKey 1027 zq23 fun zk25 => zrC zk25 fun zl26 => zrL zl26 fun zc27 zr28 => zrI .i64 zc27 fun q5 => zrL zr28 fun zc29 zr30 => zrD (.prod (.int .i64) (.int .i64)) zc29 fun q6 => zrN zr30 <| zrL zw24 fun zq31 zw32 => zrKey 1 zq31 fun zk33 => zrC zk33 fun zl34 => zrL zl34 fun zc35 zr36 => zrD (.prod (.int .i64) (.list (.prod (.int .i64) (.int .i64)))) zc35 fun q7 => zrN zr36 <| zrL zw32 fun zq37 zw38 => zrKey 0 zq37 fun zk39 => zrC zk39 fun zl40 => zrL zl40 fun zc41 zr42 => zrD (.prod (.int .i64) (.list (.prod (.int .i64) (.int .i64)))) zc41 fun q8 => zrN zr42 <| zrN zw38 <| some ((q1, q3, q4, q5, q6, q7, q8), (q0, q2))
noncomputable def sme1_can (st : Stt) : Stt := canA [0, 1, 9, 10, 11, 12, 13, 14, 15, 16, 17, 18, 19, 20, 21, 22, 23, 24, 25, 26, 27, 28, 29, 30, 31, 32, 33, 34, 35, 36, 37, 38, 39, 40, 41, 42, 43, 44, 45, 46, 47, 48, 49, 50, 51, 52, 53, 54, 55, 56, 57, 58, 59, 60, 61, 62, 63, 64] [] [1026, 1027, 1, 0] [] 2045 st
noncomputable def sme1_cok (st : Stt) : Bool := canAok [0, 1, 9, 10, 11, 12, 13, 14, 15, 16, 17, 18, 19, 20, 21, 22, 23, 24, 25, 26, 27, 28, 29, 30, 31, 32, 33, 34, 35, 36, 37, 38, 39, 40, 41, 42, 43, 44, 45, 46, 47, 48, 49, 50, 51, 52, 53, 54, 55, 56, 57, 58, 59, 60, 61, 62, 63, 64] [] [1026, 1027, 1, 0] [] 2045 st
noncomputable def sme1_read (st : Stt) : Option (sme1_U × va_V) := sme1_rd (sme1_cok st && (staysA [] [1026, 1027, 1, 0] st.own && juAll [0, 1, 9, 10, 11, 12, 13, 14, 15, 16, 17, 18, 19, 20, 21, 22, 23, 24, 25, 26, 27, 28, 29, 30, 31, 32, 33, 34, 35, 36, 37, 38, 39, 40, 41, 42, 43, 44, 45, 46, 47, 48, 49, 50, 51, 52, 53, 54, 55, 56, 57, 58, 59, 60, 61, 62, 63, 64] (sme1_can st).tm 65)) (sme1_can st).tm[2]? (sme1_can st).tm[3]? (sme1_can st).tm[4]? (sme1_can st).tm[5]? (sme1_can st).tm[6]? (sme1_can st).tm[7]? (sme1_can st).tm[8]? (sme1_can st).own
set_option maxRecDepth 100000 in
set_option maxHeartbeats 4000000 in
theorem sme1_rd_ok {b : Bool} {tm : List AV} {own : Own} {u : sme1_U} {v : va_V} (hj : b = true → juAll [0, 1, 9, 10, 11, 12, 13, 14, 15, 16, 17, 18, 19, 20, 21, 22, 23, 24, 25, 26, 27, 28, 29, 30, 31, 32, 33, 34, 35, 36, 37, 38, 39, 40, 41, 42, 43, 44, 45, 46, 47, 48, 49, 50, 51, 52, 53, 54, 55, 56, 57, 58, 59, 60, 61, 62, 63, 64] tm 65 = true) (h : sme1_rd b tm[2]? tm[3]? tm[4]? tm[5]? tm[6]? tm[7]? tm[8]? own = some (u, v)) : b = true ∧ tm = (sme1_St u v).tm ∧ own = (sme1_St u v).own := by
  unfold sme1_rd at h
  obtain ⟨rfl, h0⟩ := zrT_some h
  obtain ⟨za1, e2, h1⟩ := zrO_some h0
  obtain ⟨zc2, rfl, h2⟩ := zrA1_some h1
  obtain ⟨rfl, h3⟩ := zrP_some h2
  obtain ⟨za3, e3, h4⟩ := zrO_some h3
  obtain ⟨zc4, rfl, h5⟩ := zrA1_some h4
  obtain ⟨rfl, h6⟩ := zrP_some h5
  obtain ⟨za5, e4, h7⟩ := zrO_some h6
  obtain ⟨zc6, rfl, h8⟩ := zrA1_some h7
  obtain ⟨q0, rfl, h9⟩ := zrB_some h8
  obtain ⟨za7, e5, h10⟩ := zrO_some h9
  obtain ⟨zc8, rfl, h11⟩ := zrA1_some h10
  obtain ⟨q1, rfl, h12⟩ := zrI_some h11
  obtain ⟨za9, e6, h13⟩ := zrO_some h12
  obtain ⟨zc10, rfl, h14⟩ := zrA1_some h13
  obtain ⟨rfl, h15⟩ := zrP_some h14
  obtain ⟨za11, e7, h16⟩ := zrO_some h15
  obtain ⟨zc12, rfl, h17⟩ := zrA1_some h16
  obtain ⟨rfl, h18⟩ := zrP_some h17
  obtain ⟨za13, e8, h19⟩ := zrO_some h18
  obtain ⟨zc14, rfl, h20⟩ := zrA1_some h19
  obtain ⟨q2, rfl, h21⟩ := zrI_some h20
  obtain ⟨zq15, zw16, rfl, h22⟩ := zrL_some h21
  obtain ⟨zk17, rfl, h23⟩ := zrKey_some h22
  obtain ⟨zl18, rfl, h24⟩ := zrC_some h23
  obtain ⟨zc19, zr20, rfl, h25⟩ := zrL_some h24
  obtain ⟨q3, rfl, h26⟩ := zrI_some h25
  obtain ⟨zc21, zr22, rfl, h27⟩ := zrL_some h26
  obtain ⟨q4, rfl, h28⟩ := zrD_some h27
  obtain ⟨rfl, h29⟩ := zrN_some h28
  obtain ⟨zq23, zw24, rfl, h30⟩ := zrL_some h29
  obtain ⟨zk25, rfl, h31⟩ := zrKey_some h30
  obtain ⟨zl26, rfl, h32⟩ := zrC_some h31
  obtain ⟨zc27, zr28, rfl, h33⟩ := zrL_some h32
  obtain ⟨q5, rfl, h34⟩ := zrI_some h33
  obtain ⟨zc29, zr30, rfl, h35⟩ := zrL_some h34
  obtain ⟨q6, rfl, h36⟩ := zrD_some h35
  obtain ⟨rfl, h37⟩ := zrN_some h36
  obtain ⟨zq31, zw32, rfl, h38⟩ := zrL_some h37
  obtain ⟨zk33, rfl, h39⟩ := zrKey_some h38
  obtain ⟨zl34, rfl, h40⟩ := zrC_some h39
  obtain ⟨zc35, zr36, rfl, h41⟩ := zrL_some h40
  obtain ⟨q7, rfl, h42⟩ := zrD_some h41
  obtain ⟨rfl, h43⟩ := zrN_some h42
  obtain ⟨zq37, zw38, rfl, h44⟩ := zrL_some h43
  obtain ⟨zk39, rfl, h45⟩ := zrKey_some h44
  obtain ⟨zl40, rfl, h46⟩ := zrC_some h45
  obtain ⟨zc41, zr42, rfl, h47⟩ := zrL_some h46
  obtain ⟨q8, rfl, h48⟩ := zrD_some h47
  obtain ⟨rfl, h49⟩ := zrN_some h48
  obtain ⟨rfl, h50⟩ := zrN_some h49
  have h := Option.some.inj h50
  have hu := congrArg Prod.fst h
  have hv := congrArg Prod.snd h
  dsimp only at hu hv
  subst hu
  subst hv
  exact ⟨rfl, (tm_fill (hj rfl) (Lv := [(2, .one (.p 0 0)), (3, .one (.p 1 0)), (4, .one (.v false (.bool q0))), (5, .one (.v false (.int .i64 q1))), (6, .one (.p 1026 0)), (7, .one (.p 1027 0)), (8, .one (.v false (.int .i64 q2)))]) (by kernel_rfl) ⟨e2, e3, e4, e5, e6, e7, e8, trivial⟩).trans (by kernel_rfl), rfl⟩
theorem sme1_read_ok (st : Stt) (u : sme1_U) (v : va_V) (h : sme1_read st = some (u, v)) : sme1_cok st = true ∧ staysA [] [1026, 1027, 1, 0] st.own = true ∧ sme1_can st = sme1_St u v := by
  obtain ⟨h1, h2, h3⟩ := sme1_rd_ok (fun hb => by rw [Bool.and_eq_true, Bool.and_eq_true] at hb; exact hb.2.2) h
  rw [Bool.and_eq_true, Bool.and_eq_true] at h1
  refine ⟨h1.1, h1.2.1, ?_⟩
  have e : sme1_can st = ⟨(sme1_can st).tm, (sme1_can st).own, 2045⟩ := by kernel_rfl
  rw [e, h2, h3]
  rfl
noncomputable def sme1_cond (u : sme1_U) (v : va_V) : Bool := runC (sme1_step u) v
noncomputable def sme1_g (u : sme1_U) (v : va_V) : Nat × va_V := runG (sme1_step u) v
theorem sme1_hg : ∀ (u : sme1_U) (v : va_V), sme1_cond u v = true → loopN (sme1_step u) ((fun u v => runF (sme1_step u) v) u v) v = some (sme1_g u v) := by
  exact fun u v h => run_hg h
noncomputable def sme1_m (st : Stt) : Option (Tr (Ex × Stt)) := sumM sme1_read sme1_cond sme1_St sme1_g [(0, .ret), (1, .exit 2)] st
noncomputable def rgB_L56 : FuncId → Loops := addL 16 [0, 1, 1, 1, 0, 0, 1, 0, 0, 1, 0, 1, 1] sme1_m rgB_L55
set_option maxRecDepth 100000 in
set_option maxHeartbeats 4000000 in
theorem rgB_L56_ok : LoopsOK Try.prog rgB_L56 :=
  loop_sumF (body := (bodyOf Try.prog 16)) (c := (loopOf (bodyOf Try.prog 16) [1, 1, 0, 1, 0, 0, 1, 0, 0, 1, 1, 1, 0])) (kinds := [.ret, .exit 2]) (allow := [(0, .ret), (1, .exit 2)]) (St := sme1_St) (step := sme1_step) (W := [0, 1, 9, 10, 11, 12, 13, 14, 15, 16, 17, 18, 19, 20, 21, 22, 23, 24, 25, 26, 27, 28, 29, 30, 31, 32, 33, 34, 35, 36, 37, 38, 39, 40, 41, 42, 43, 44, 45, 46, 47, 48, 49, 50, 51, 52, 53, 54, 55, 56, 57, 58, 59, 60, 61, 62, 63, 64]) (As := []) (ks := [1026, 1027, 1, 0]) (dd := []) (nx := 2045) (n := 100000) (g := sme1_g) (cond := sme1_cond) (fuel := (fun u v => runF (sme1_step u) v)) (read := sme1_read) (by kernel_rfl) (rgB_S52_ok) (rgB_L55_ok) 7 ⟨Try.f16, by kernel_rfl, by kernel_rfl⟩ (by kernel_rfl) (by kernel_rfl) (by kernel_rfl) sme1_step_eq sme1_hg sme1_read_ok
abbrev sme0_U : Type := (Ty.list (.prod (.int .i64) (.list (.prod (.int .i64) (.int .i64))))).den × (Ty.list (.prod (.int .i64) (.list (.prod (.int .i64) (.int .i64))))).den
noncomputable def sme0_St (u : sme0_U) (v : va_V) : Stt := ⟨[.one .junk, .one .junk, .one (.p 0 0), .one (.p 1 0), .one (.v false (.bool v.1)), .one (.v false (.int .i64 v.2)), .one .junk, .one .junk, .one .junk, .one .junk, .one .junk, .one .junk, .one .junk, .one .junk, .one .junk, .one .junk, .one .junk, .one .junk, .one .junk, .one .junk, .one .junk, .one .junk, .one .junk, .one .junk, .one .junk, .one .junk, .one .junk, .one .junk, .one .junk, .one .junk, .one .junk, .one .junk, .one .junk, .one .junk, .one .junk, .one .junk, .one .junk, .one .junk, .one .junk, .one .junk, .one .junk, .one .junk, .one .junk, .one .junk, .one .junk, .one .junk, .one .junk, .one .junk, .one .junk, .one .junk, .one .junk, .one .junk, .one .junk, .one .junk, .one .junk, .one .junk, .one .junk, .one .junk, .one .junk, .one .junk, .one .junk, .one .junk, .one .junk, .one .junk, .one .junk], [(1, .cells [.d false false (.prod (.int .i64) (.list (.prod (.int .i64) (.int .i64)))) u.1]), (0, .cells [.d false false (.prod (.int .i64) (.list (.prod (.int .i64) (.int .i64)))) u.2])], 1011⟩
noncomputable def sme0_step (u : sme0_U) (v : va_V) : Tr (va_V ⊕ (Nat × va_V)) :=
  match u, v with
  | (q2, q3), (q0, q1) => .br (decide (q1 < (↑(List.length q3) : Int))) (.br (decide ((0 : Int) ≤ q1) && decide (q1 < (↑(List.length q2) : Int))) (.br (decide ((0 : Int) ≤ q1) && decide (q1 < (↑(List.length q3) : Int))) (.br (bif Prod.fst (el_ilii q3 q1) != Prod.fst (el_ilii q2 q1) then true else (↑(List.length (Prod.snd (el_ilii q3 q1))) : Int) != (↑(List.length (Prod.snd (el_ilii q2 q1))) : Int)) (.ret (.inr (0, (false, q1)))) (.br (sme1_cond (q1, Prod.fst (el_ilii q3 q1), Prod.snd (el_ilii q3 q1), Prod.fst (el_ilii q2 q1), Prod.snd (el_ilii q2 q1), q2, q3) (q0, (0 : Int))) (.br (Nat.beq (Prod.fst (sme1_g (q1, Prod.fst (el_ilii q3 q1), Prod.snd (el_ilii q3 q1), Prod.fst (el_ilii q2 q1), Prod.snd (el_ilii q2 q1), q2, q3) (q0, (0 : Int)))) (0 : Nat)) (.ret (.inr (0, (Prod.fst (Prod.snd (sme1_g (q1, Prod.fst (el_ilii q3 q1), Prod.snd (el_ilii q3 q1), Prod.fst (el_ilii q2 q1), Prod.snd (el_ilii q2 q1), q2, q3) (q0, (0 : Int)))), q1)))) (.br (Nat.beq (Prod.fst (sme1_g (q1, Prod.fst (el_ilii q3 q1), Prod.snd (el_ilii q3 q1), Prod.fst (el_ilii q2 q1), Prod.snd (el_ilii q2 q1), q2, q3) (q0, (0 : Int)))) (1 : Nat)) (.ret (.inl (Prod.fst (Prod.snd (sme1_g (q1, Prod.fst (el_ilii q3 q1), Prod.snd (el_ilii q3 q1), Prod.fst (el_ilii q2 q1), Prod.snd (el_ilii q2 q1), q2, q3) (q0, (0 : Int)))), IntKind.wrap .i64 (q1 + (1 : Int))))) (.bad 902))) (.bad 901))) (.bad 29)) (.bad 29)) (.ret (.inr (1, (q0, q1))))
set_option maxRecDepth 100000 in
set_option maxHeartbeats 4000000 in
theorem sme0_step_eq : ∀ (u : sme0_U) (v : va_V), (evalC Try.prog (evalB Try.prog rgB_S52 (opens []) rgB_L56 7).1 (evalB Try.prog rgB_S52 (opens []) rgB_L56 7).2 (opens []) (rgB_L56 16) 100000 (0 :: [0, 1, 0, 1, 1]) (loopOf (bodyOf Try.prog 16) [1, 1, 0, 1, 0]) (sme0_St u v) []).bind (finF [0, 1, 6, 7, 8, 9, 10, 11, 12, 13, 14, 15, 16, 17, 18, 19, 20, 21, 22, 23, 24, 25, 26, 27, 28, 29, 30, 31, 32, 33, 34, 35, 36, 37, 38, 39, 40, 41, 42, 43, 44, 45, 46, 47, 48, 49, 50, 51, 52, 53, 54, 55, 56, 57, 58, 59, 60, 61, 62, 63, 64] [] [1, 0] [] 1011) = (sme0_step u v).bind (outA (sme0_St u) [.ret, .exit 0]) := by
  rintro ⟨q2, q3⟩ ⟨q0, q1⟩
  kernel_rfl
noncomputable def sme0_rd (b : Bool) (o2 : Option AV) (o3 : Option AV) (o4 : Option AV) (o5 : Option AV) (own : Own) : Option (sme0_U × va_V) := zrT b <| zrO o2 fun za1 => zrA1 za1 fun zc2 => zrP 0 0 zc2 <| zrO o3 fun za3 => zrA1 za3 fun zc4 => zrP 1 0 zc4 <| zrO o4 fun za5 => zrA1 za5 fun zc6 => zrB zc6 fun q0 => zrO o5 fun za7 => zrA1 za7 fun zc8 => zrI .i64 zc8 fun q1 => zrL own fun zq9 zw10 => zrKey 1 zq9 fun zk11 => zrC zk11 fun zl12 => zrL zl12 fun zc13 zr14 => zrD (.prod (.int .i64) (.list (.prod (.int .i64) (.int .i64)))) zc13 fun q2 => zrN zr14 <| zrL zw10 fun zq15 zw16 => zrKey 0 zq15 fun zk17 => zrC zk17 fun zl18 => zrL zl18 fun zc19 zr20 => zrD (.prod (.int .i64) (.list (.prod (.int .i64) (.int .i64)))) zc19 fun q3 => zrN zr20 <| zrN zw16 <| some ((q2, q3), (q0, q1))
noncomputable def sme0_can (st : Stt) : Stt := canA [0, 1, 6, 7, 8, 9, 10, 11, 12, 13, 14, 15, 16, 17, 18, 19, 20, 21, 22, 23, 24, 25, 26, 27, 28, 29, 30, 31, 32, 33, 34, 35, 36, 37, 38, 39, 40, 41, 42, 43, 44, 45, 46, 47, 48, 49, 50, 51, 52, 53, 54, 55, 56, 57, 58, 59, 60, 61, 62, 63, 64] [] [1, 0] [] 1011 st
noncomputable def sme0_cok (st : Stt) : Bool := canAok [0, 1, 6, 7, 8, 9, 10, 11, 12, 13, 14, 15, 16, 17, 18, 19, 20, 21, 22, 23, 24, 25, 26, 27, 28, 29, 30, 31, 32, 33, 34, 35, 36, 37, 38, 39, 40, 41, 42, 43, 44, 45, 46, 47, 48, 49, 50, 51, 52, 53, 54, 55, 56, 57, 58, 59, 60, 61, 62, 63, 64] [] [1, 0] [] 1011 st
noncomputable def sme0_read (st : Stt) : Option (sme0_U × va_V) := sme0_rd (sme0_cok st && (staysA [] [1, 0] st.own && juAll [0, 1, 6, 7, 8, 9, 10, 11, 12, 13, 14, 15, 16, 17, 18, 19, 20, 21, 22, 23, 24, 25, 26, 27, 28, 29, 30, 31, 32, 33, 34, 35, 36, 37, 38, 39, 40, 41, 42, 43, 44, 45, 46, 47, 48, 49, 50, 51, 52, 53, 54, 55, 56, 57, 58, 59, 60, 61, 62, 63, 64] (sme0_can st).tm 65)) (sme0_can st).tm[2]? (sme0_can st).tm[3]? (sme0_can st).tm[4]? (sme0_can st).tm[5]? (sme0_can st).own
set_option maxRecDepth 100000 in
set_option maxHeartbeats 4000000 in
theorem sme0_rd_ok {b : Bool} {tm : List AV} {own : Own} {u : sme0_U} {v : va_V} (hj : b = true → juAll [0, 1, 6, 7, 8, 9, 10, 11, 12, 13, 14, 15, 16, 17, 18, 19, 20, 21, 22, 23, 24, 25, 26, 27, 28, 29, 30, 31, 32, 33, 34, 35, 36, 37, 38, 39, 40, 41, 42, 43, 44, 45, 46, 47, 48, 49, 50, 51, 52, 53, 54, 55, 56, 57, 58, 59, 60, 61, 62, 63, 64] tm 65 = true) (h : sme0_rd b tm[2]? tm[3]? tm[4]? tm[5]? own = some (u, v)) : b = true ∧ tm = (sme0_St u v).tm ∧ own = (sme0_St u v).own := by
  unfold sme0_rd at h
  obtain ⟨rfl, h0⟩ := zrT_some h
  obtain ⟨za1, e2, h1⟩ := zrO_some h0
  obtain ⟨zc2, rfl, h2⟩ := zrA1_some h1
  obtain ⟨rfl, h3⟩ := zrP_some h2
  obtain ⟨za3, e3, h4⟩ := zrO_some h3
  obtain ⟨zc4, rfl, h5⟩ := zrA1_some h4
  obtain ⟨rfl, h6⟩ := zrP_some h5
  obtain ⟨za5, e4, h7⟩ := zrO_some h6
  obtain ⟨zc6, rfl, h8⟩ := zrA1_some h7
  obtain ⟨q0, rfl, h9⟩ := zrB_some h8
  obtain ⟨za7, e5, h10⟩ := zrO_some h9
  obtain ⟨zc8, rfl, h11⟩ := zrA1_some h10
  obtain ⟨q1, rfl, h12⟩ := zrI_some h11
  obtain ⟨zq9, zw10, rfl, h13⟩ := zrL_some h12
  obtain ⟨zk11, rfl, h14⟩ := zrKey_some h13
  obtain ⟨zl12, rfl, h15⟩ := zrC_some h14
  obtain ⟨zc13, zr14, rfl, h16⟩ := zrL_some h15
  obtain ⟨q2, rfl, h17⟩ := zrD_some h16
  obtain ⟨rfl, h18⟩ := zrN_some h17
  obtain ⟨zq15, zw16, rfl, h19⟩ := zrL_some h18
  obtain ⟨zk17, rfl, h20⟩ := zrKey_some h19
  obtain ⟨zl18, rfl, h21⟩ := zrC_some h20
  obtain ⟨zc19, zr20, rfl, h22⟩ := zrL_some h21
  obtain ⟨q3, rfl, h23⟩ := zrD_some h22
  obtain ⟨rfl, h24⟩ := zrN_some h23
  obtain ⟨rfl, h25⟩ := zrN_some h24
  have h := Option.some.inj h25
  have hu := congrArg Prod.fst h
  have hv := congrArg Prod.snd h
  dsimp only at hu hv
  subst hu
  subst hv
  exact ⟨rfl, (tm_fill (hj rfl) (Lv := [(2, .one (.p 0 0)), (3, .one (.p 1 0)), (4, .one (.v false (.bool q0))), (5, .one (.v false (.int .i64 q1)))]) (by kernel_rfl) ⟨e2, e3, e4, e5, trivial⟩).trans (by kernel_rfl), rfl⟩
theorem sme0_read_ok (st : Stt) (u : sme0_U) (v : va_V) (h : sme0_read st = some (u, v)) : sme0_cok st = true ∧ staysA [] [1, 0] st.own = true ∧ sme0_can st = sme0_St u v := by
  obtain ⟨h1, h2, h3⟩ := sme0_rd_ok (fun hb => by rw [Bool.and_eq_true, Bool.and_eq_true] at hb; exact hb.2.2) h
  rw [Bool.and_eq_true, Bool.and_eq_true] at h1
  refine ⟨h1.1, h1.2.1, ?_⟩
  have e : sme0_can st = ⟨(sme0_can st).tm, (sme0_can st).own, 1011⟩ := by kernel_rfl
  rw [e, h2, h3]
  rfl
noncomputable def sme0_cond (u : sme0_U) (v : va_V) : Bool := runC (sme0_step u) v
noncomputable def sme0_g (u : sme0_U) (v : va_V) : Nat × va_V := runG (sme0_step u) v
theorem sme0_hg : ∀ (u : sme0_U) (v : va_V), sme0_cond u v = true → loopN (sme0_step u) ((fun u v => runF (sme0_step u) v) u v) v = some (sme0_g u v) := by
  exact fun u v h => run_hg h
noncomputable def sme0_m (st : Stt) : Option (Tr (Ex × Stt)) := sumM sme0_read sme0_cond sme0_St sme0_g [(0, .ret), (1, .exit 0)] st
noncomputable def rgB_L57 : FuncId → Loops := addL 16 [0, 1, 0, 1, 1] sme0_m rgB_L56
set_option maxRecDepth 100000 in
set_option maxHeartbeats 4000000 in
theorem rgB_L57_ok : LoopsOK Try.prog rgB_L57 :=
  loop_sumF (body := (bodyOf Try.prog 16)) (c := (loopOf (bodyOf Try.prog 16) [1, 1, 0, 1, 0])) (kinds := [.ret, .exit 0]) (allow := [(0, .ret), (1, .exit 0)]) (St := sme0_St) (step := sme0_step) (W := [0, 1, 6, 7, 8, 9, 10, 11, 12, 13, 14, 15, 16, 17, 18, 19, 20, 21, 22, 23, 24, 25, 26, 27, 28, 29, 30, 31, 32, 33, 34, 35, 36, 37, 38, 39, 40, 41, 42, 43, 44, 45, 46, 47, 48, 49, 50, 51, 52, 53, 54, 55, 56, 57, 58, 59, 60, 61, 62, 63, 64]) (As := []) (ks := [1, 0]) (dd := []) (nx := 1011) (n := 100000) (g := sme0_g) (cond := sme0_cond) (fuel := (fun u v => runF (sme0_step u) v)) (read := sme0_read) (by kernel_rfl) (rgB_S52_ok) (rgB_L56_ok) 7 ⟨Try.f16, by kernel_rfl, by kernel_rfl⟩ (by kernel_rfl) (by kernel_rfl) (by kernel_rfl) sme0_step_eq sme0_hg sme0_read_ok
noncomputable def sml_St (u : gvb_U) (v : va_V) : Stt := ⟨[.one .junk, .one (.p 0 0), .one (.v false (.bool v.1)), .one (.v false (.int .i64 v.2)), .one .junk, .one .junk, .one .junk, .one .junk, .one .junk, .one .junk, .one .junk, .one .junk, .one .junk, .one .junk, .one .junk, .one .junk, .one .junk, .one .junk, .one .junk, .one .junk, .one .junk, .one .junk, .one .junk, .one .junk, .one .junk, .one .junk], [(0, .cells [.d false false (.prod (.int .i64) (.list (.prod (.int .i64) (.int .i64)))) u])], 1007⟩
noncomputable def sml_step (u : gvb_U) (v : va_V) : Tr (va_V ⊕ (Nat × va_V)) :=
  match u, v with
  | q2, (q0, q1) => .br (decide (q1 < (↑(List.length q2) : Int))) (.br (decide ((0 : Int) ≤ q1) && decide (q1 < (↑(List.length q2) : Int))) (.br (decide ((↑(List.length (Prod.snd (el_ilii q2 q1))) : Int) > (40 : Int))) (.ret (.inr (0, (false, q1)))) (.ret (.inl (q0, IntKind.wrap .i64 (q1 + (1 : Int)))))) (.bad 29)) (.ret (.inr (1, (q0, q1))))
set_option maxRecDepth 100000 in
set_option maxHeartbeats 4000000 in
theorem sml_step_eq : ∀ (u : gvb_U) (v : va_V), (evalC Try.prog (evalB Try.prog rgB_S52 (opens []) rgB_L57 7).1 (evalB Try.prog rgB_S52 (opens []) rgB_L57 7).2 (opens []) (rgB_L57 27) 100000 (0 :: [0, 1, 0, 1, 1]) (loopOf (bodyOf Try.prog 27) [1, 1, 0, 1, 0]) (sml_St u v) []).bind (finF [0, 4, 5, 6, 7, 8, 9, 10, 11, 12, 13, 14, 15, 16, 17, 18, 19, 20, 21, 22, 23, 24, 25] [] [0] [] 1007) = (sml_step u v).bind (outA (sml_St u) [.ret, .exit 0]) := by
  rintro q2 ⟨q0, q1⟩
  kernel_rfl
noncomputable def sml_can (st : Stt) : Stt := canA [0, 4, 5, 6, 7, 8, 9, 10, 11, 12, 13, 14, 15, 16, 17, 18, 19, 20, 21, 22, 23, 24, 25] [] [0] [] 1007 st
noncomputable def sml_cok (st : Stt) : Bool := canAok [0, 4, 5, 6, 7, 8, 9, 10, 11, 12, 13, 14, 15, 16, 17, 18, 19, 20, 21, 22, 23, 24, 25] [] [0] [] 1007 st
noncomputable def sml_read (st : Stt) : Option (gvb_U × va_V) := gvb_rd (sml_cok st && (staysA [] [0] st.own && juAll [0, 4, 5, 6, 7, 8, 9, 10, 11, 12, 13, 14, 15, 16, 17, 18, 19, 20, 21, 22, 23, 24, 25] (sml_can st).tm 26)) (sml_can st).tm[1]? (sml_can st).tm[2]? (sml_can st).tm[3]? (sml_can st).own
set_option maxRecDepth 100000 in
set_option maxHeartbeats 4000000 in
theorem sml_rd_ok {b : Bool} {tm : List AV} {own : Own} {u : gvb_U} {v : va_V} (hj : b = true → juAll [0, 4, 5, 6, 7, 8, 9, 10, 11, 12, 13, 14, 15, 16, 17, 18, 19, 20, 21, 22, 23, 24, 25] tm 26 = true) (h : gvb_rd b tm[1]? tm[2]? tm[3]? own = some (u, v)) : b = true ∧ tm = (sml_St u v).tm ∧ own = (sml_St u v).own := by
  unfold gvb_rd at h
  obtain ⟨rfl, h0⟩ := zrT_some h
  obtain ⟨za1, e1, h1⟩ := zrO_some h0
  obtain ⟨zc2, rfl, h2⟩ := zrA1_some h1
  obtain ⟨rfl, h3⟩ := zrP_some h2
  obtain ⟨za3, e2, h4⟩ := zrO_some h3
  obtain ⟨zc4, rfl, h5⟩ := zrA1_some h4
  obtain ⟨q0, rfl, h6⟩ := zrB_some h5
  obtain ⟨za5, e3, h7⟩ := zrO_some h6
  obtain ⟨zc6, rfl, h8⟩ := zrA1_some h7
  obtain ⟨q1, rfl, h9⟩ := zrI_some h8
  obtain ⟨zq7, zw8, rfl, h10⟩ := zrL_some h9
  obtain ⟨zk9, rfl, h11⟩ := zrKey_some h10
  obtain ⟨zl10, rfl, h12⟩ := zrC_some h11
  obtain ⟨zc11, zr12, rfl, h13⟩ := zrL_some h12
  obtain ⟨q2, rfl, h14⟩ := zrD_some h13
  obtain ⟨rfl, h15⟩ := zrN_some h14
  obtain ⟨rfl, h16⟩ := zrN_some h15
  have h := Option.some.inj h16
  have hu := congrArg Prod.fst h
  have hv := congrArg Prod.snd h
  dsimp only at hu hv
  subst hu
  subst hv
  exact ⟨rfl, (tm_fill (hj rfl) (Lv := [(1, .one (.p 0 0)), (2, .one (.v false (.bool q0))), (3, .one (.v false (.int .i64 q1)))]) (by kernel_rfl) ⟨e1, e2, e3, trivial⟩).trans (by kernel_rfl), rfl⟩
theorem sml_read_ok (st : Stt) (u : gvb_U) (v : va_V) (h : sml_read st = some (u, v)) : sml_cok st = true ∧ staysA [] [0] st.own = true ∧ sml_can st = sml_St u v := by
  obtain ⟨h1, h2, h3⟩ := sml_rd_ok (fun hb => by rw [Bool.and_eq_true, Bool.and_eq_true] at hb; exact hb.2.2) h
  rw [Bool.and_eq_true, Bool.and_eq_true] at h1
  refine ⟨h1.1, h1.2.1, ?_⟩
  have e : sml_can st = ⟨(sml_can st).tm, (sml_can st).own, 1007⟩ := by kernel_rfl
  rw [e, h2, h3]
  rfl
noncomputable def sml_cond (u : gvb_U) (v : va_V) : Bool := runC (sml_step u) v
noncomputable def sml_g (u : gvb_U) (v : va_V) : Nat × va_V := runG (sml_step u) v
theorem sml_hg : ∀ (u : gvb_U) (v : va_V), sml_cond u v = true → loopN (sml_step u) ((fun u v => runF (sml_step u) v) u v) v = some (sml_g u v) := by
  exact fun u v h => run_hg h
noncomputable def sml_m (st : Stt) : Option (Tr (Ex × Stt)) := sumM sml_read sml_cond sml_St sml_g [(0, .ret), (1, .exit 0)] st
noncomputable def rgB_L58 : FuncId → Loops := addL 27 [0, 1, 0, 1, 1] sml_m rgB_L57
set_option maxRecDepth 100000 in
set_option maxHeartbeats 4000000 in
theorem rgB_L58_ok : LoopsOK Try.prog rgB_L58 :=
  loop_sumF (body := (bodyOf Try.prog 27)) (c := (loopOf (bodyOf Try.prog 27) [1, 1, 0, 1, 0])) (kinds := [.ret, .exit 0]) (allow := [(0, .ret), (1, .exit 0)]) (St := sml_St) (step := sml_step) (W := [0, 4, 5, 6, 7, 8, 9, 10, 11, 12, 13, 14, 15, 16, 17, 18, 19, 20, 21, 22, 23, 24, 25]) (As := []) (ks := [0]) (dd := []) (nx := 1007) (n := 100000) (g := sml_g) (cond := sml_cond) (fuel := (fun u v => runF (sml_step u) v)) (read := sml_read) (by kernel_rfl) (rgB_S52_ok) (rgB_L57_ok) 7 ⟨Try.f27, by kernel_rfl, by kernel_rfl⟩ (by kernel_rfl) (by kernel_rfl) (by kernel_rfl) sml_step_eq sml_hg sml_read_ok
theorem eq2 (a b : Int × Int) : (a.1 == b.1 && (a.2 == b.2 && true)) = decide (a = b) := by
  obtain ⟨a1, a2⟩ := a
  obtain ⟨b1, b2⟩ := b
  rw [Bool.eq_iff_iff]
  simp
theorem lenV_row {r : Int × Rl} (h : rowOk r) : lenV r.2 = lenR r.2 := by unfold lenV; rw [valB_t (rowOk_val h)]; rfl
theorem cta_run {R : Rg} (h : valG R) : cta_cond (0, R, (R.length : Int)) (0, 0) = true ∧ cta_g (0, R, (R.length : Int)) (0, 0) = (0, (cntG R, (R.length : Int))) := by
  have hn := ng_len h (by omega)
  have R1 := run_steps (step := cta_step (0, R, (R.length : Int))) (St := fun j => (cntG (R.take j), (j : Int))) (n := R.length) (t := (0, (cntG R, (R.length : Int)))) (by
    simp only [cta_step, Tr.val, Int.lt_irrefl, decide_false, cond_false, List.take_length]) R.length 0 (Nat.zero_add _) (fun j _ hj => by
    have g := Ng.rows h _ (List.getElem_mem hj)
    have b := cntG_bd h j (by omega)
    have b2 := lenR_row g
    have w3 : IntKind.wrap .i64 (cntG (R.take j) + lenR R[j].2) = cntG (R.take j) + lenR R[j].2 := wid (by omega) (by omega)
    have c6 : decide (R[j].2.length ≤ 100000) = true := decide_eq_true (by have := row_len g; omega)
    rw [cntG_take hj]
    simp only [cta_step, Tr.val, lt_t hj, nn_t, el_g hj, c6, lenV_row g, w3, wi1 hj (show (R.length : Int) ≤ 9223372036854775806 by omega), Bool.and_self, cond_true])
  exact R1
theorem ctb1_run {R : Rg} {i : Nat} (h : valG R) (hi : i < R.length) {c : Int} (c0 : 0 ≤ c) (c1 : c ≤ 100000000000) : ctb1_cond (0, (i : Int), R) (c, 0) = true ∧ ctb1_g (0, (i : Int), R) (c, 0) = (0, (c + lenR R[i].2, (R[i].2.length : Int))) := by
  have g := Ng.rows h _ (List.getElem_mem hi)
  have hv := rowOk_val g
  have hl := row_len g
  have R1 := run_steps (step := ctb1_step (0, (i : Int), R)) (St := fun j => (c + lenR (R[i].2.take j), (j : Int))) (n := R[i].2.length) (t := (0, (c + lenR R[i].2, (R[i].2.length : Int)))) (by
    simp only [ctb1_step, Tr.val, lt_t hi, nn_t, el_g hi, Bool.and_self, cond_true, Int.lt_irrefl, decide_false, cond_false, List.take_length]) R[i].2.length 0 (Nat.zero_add _) (fun j _ hj => by
    have g := good_in hv hj
    have b := lenR_bd hv j (by omega)
    have w2 : IntKind.wrap .i64 (R[i].2[j].2 - R[i].2[j].1) = R[i].2[j].2 - R[i].2[j].1 := wid (by omega) (by omega)
    have w3 : IntKind.wrap .i64 (c + lenR (R[i].2.take j) + (R[i].2[j].2 - R[i].2[j].1)) = c + (lenR (R[i].2.take j) + (R[i].2[j].2 - R[i].2[j].1)) := by rw [wid (by omega) (by omega)]; omega
    rw [lenR_take hj]
    simp only [ctb1_step, Tr.val, lt_t hi, lt_t hj, nn_t, el_g hi, el_r hj, w2, w3, wi1 hj (show (R[i].2.length : Int) ≤ 9223372036854775806 by omega), Bool.and_self, cond_true])
  have e : c + lenR (R[i].2.take 0) = c := by show c + 0 = c; omega
  simp only [e] at R1
  exact R1
theorem ctb0_run {R : Rg} (h : valG R) : ctb0_cond (0, R) (0, 0) = true ∧ ctb0_g (0, R) (0, 0) = (0, (cntG R, (R.length : Int))) := by
  have hn := ng_len h (by omega)
  have R1 := run_steps (step := ctb0_step (0, R)) (St := fun j => (cntG (R.take j), (j : Int))) (n := R.length) (t := (0, (cntG R, (R.length : Int)))) (by
    simp only [ctb0_step, Tr.val, Int.lt_irrefl, decide_false, cond_false, List.take_length]) R.length 0 (Nat.zero_add _) (fun j _ hj => by
    have b := cntG_bd h j (by omega)
    obtain ⟨d1, d2⟩ := ctb1_run h hj b.1 (by omega)
    rw [cntG_take hj]
    simp only [ctb0_step, Tr.val, lt_t hj, nn_t, d1, d2, Nat.beq, wi1 hj (show (R.length : Int) ≤ 9223372036854775806 by omega), Bool.and_self, cond_true])
  exact R1
theorem sme1_run {A B : Rl} {i y1 y2 : Int} {P Q : Rg} {q : Bool} (hl : A.length = B.length) (hn : (A.length : Int) ≤ 9223372036854775807) : sme1_cond (i, y1, A, y2, B, P, Q) (q, 0) = true ∧ ((A = B ∧ sme1_g (i, y1, A, y2, B, P, Q) (q, 0) = (1, (q, (A.length : Int)))) ∨ (A ≠ B ∧ ∃ j : Nat, sme1_g (i, y1, A, y2, B, P, Q) (q, 0) = (0, (false, (j : Int))))) := by
  obtain ⟨h1, h2⟩ := run_scan (step := sme1_step (i, y1, A, y2, B, P, Q)) (St := fun i => (q, (i : Int))) (Lv := fun i => (0, (false, (i : Int)))) (t := (1, (q, (A.length : Int)))) (n := A.length) (p := fun i => decide (el_ii A i = el_ii B i)) (fun i hi => by
    have hi2 : i < B.length := by omega
    simp only [sme1_step, Tr.val, lt_t hi, lt_t hi2, nn_t, wi2 hi (show (A.length : Int) ≤ 9223372036854775807 by omega), eq2, Bool.and_self, cond_true]
    cases decide (el_ii A (i : Int) = el_ii B (i : Int)) <;> rfl) (by simp only [sme1_step, Tr.val, Int.lt_irrefl, decide_false, cond_false])
  refine ⟨h1, ?_⟩
  rcases h2 with ⟨h, h3⟩ | ⟨j, hj, hp, _, h4⟩
  · refine .inl ⟨list_eq_of hl fun i a b => ?_, h3⟩
    have := of_decide_eq_true (h i a)
    rwa [el_r a, el_r b] at this
  · refine .inr ⟨fun e => ?_, j, h4⟩
    subst e
    simp at hp
theorem sme0_run {A B : Rg} (hl : A.length = B.length) (hs : szG A = true) : sme0_cond (B, A) (false, 0) = true ∧ ((A = B ∧ sme0_g (B, A) (false, 0) = (1, (false, (A.length : Int)))) ∨ (A ≠ B ∧ ∃ j : Nat, sme0_g (B, A) (false, 0) = (0, (false, (j : Int))))) := by
  have hn := sz_len hs
  obtain ⟨h1, h2⟩ := run_scan (step := sme0_step (B, A)) (St := fun i => (false, (i : Int))) (Lv := fun i => (0, (false, (i : Int)))) (t := (1, (false, (A.length : Int)))) (n := A.length) (p := fun i => decide (A[i]? = B[i]?)) (fun i hi => by
    have hi2 : i < B.length := by omega
    have hr := sz_row hs hi
    have eo : (A[i]? = B[i]?) ↔ (A[i].1 = B[i].1 ∧ A[i].2 = B[i].2) := by
      rw [List.getElem?_eq_getElem hi, List.getElem?_eq_getElem hi2, Option.some.injEq, Prod.ext_iff]
    have w1 := wi2 hi (show (A.length : Int) ≤ 9223372036854775807 by omega)
    simp only [eo]
    by_cases a1 : A[i].1 = B[i].1
    · have b1 : (A[i].1 != B[i].1) = false := by rw [a1]; exact bne_self_eq_false _
      by_cases a2 : A[i].2.length = B[i].2.length
      · have b2 : ((A[i].2.length : Int) != (B[i].2.length : Int)) = false := by rw [a2]; exact bne_self_eq_false _
        obtain ⟨d1, d2⟩ := sme1_run (i := (i : Int)) (y1 := A[i].1) (y2 := B[i].1) (P := B) (Q := A) (q := false) a2 hr
        rcases d2 with ⟨e, d⟩ | ⟨e, j, d⟩
        · have dd : decide (A[i].1 = B[i].1 ∧ A[i].2 = B[i].2) = true := decide_eq_true ⟨a1, e⟩
          simp only [sme0_step, Tr.val, lt_t hi, lt_t hi2, nn_t, el_g hi, el_g hi2, b1, b2, d1, d, dd, Nat.beq, w1, Bool.and_self, cond_true, cond_false]
        · have dd : decide (A[i].1 = B[i].1 ∧ A[i].2 = B[i].2) = false := decide_eq_false fun h => e h.2
          simp only [sme0_step, Tr.val, lt_t hi, lt_t hi2, nn_t, el_g hi, el_g hi2, b1, b2, d1, d, dd, Nat.beq, Bool.and_self, cond_true, cond_false]
      · have b2 : ((A[i].2.length : Int) != (B[i].2.length : Int)) = true := by simp; omega
        have dd : decide (A[i].1 = B[i].1 ∧ A[i].2 = B[i].2) = false := decide_eq_false fun h => a2 (by rw [h.2])
        simp only [sme0_step, Tr.val, lt_t hi, lt_t hi2, nn_t, el_g hi, el_g hi2, b1, b2, dd, Bool.and_self, cond_true, cond_false]
    · have b1 : (A[i].1 != B[i].1) = true := by simpa using a1
      have dd : decide (A[i].1 = B[i].1 ∧ A[i].2 = B[i].2) = false := decide_eq_false fun h => a1 h.1
      simp only [sme0_step, Tr.val, lt_t hi, lt_t hi2, nn_t, el_g hi, el_g hi2, b1, dd, Bool.and_self, cond_true, cond_false]) (by simp only [sme0_step, Tr.val, Int.lt_irrefl, decide_false, cond_false])
  refine ⟨h1, ?_⟩
  rcases h2 with ⟨h, h3⟩ | ⟨j, hj, hp, _, h4⟩
  · refine .inl ⟨list_eq_of hl fun i a b => ?_, h3⟩
    have := of_decide_eq_true (h i a)
    rwa [List.getElem?_eq_getElem a, List.getElem?_eq_getElem b, Option.some.injEq] at this
  · refine .inr ⟨fun e => ?_, j, h4⟩
    subst e
    simp at hp
noncomputable def smG (R : Rg) : Bool := decide (R.length ≤ 40) && (R.all (fun r => decide (r.2.length ≤ 40)) && decide (cntV R ≤ 600))
theorem sml_run {R : Rg} (hn : R.length ≤ 40) : sml_cond R (false, 0) = true ∧ ((R.all (fun r => decide (r.2.length ≤ 40)) = true ∧ sml_g R (false, 0) = (1, (false, (R.length : Int)))) ∨ (R.all (fun r => decide (r.2.length ≤ 40)) = false ∧ ∃ j : Nat, sml_g R (false, 0) = (0, (false, (j : Int))))) := by
  obtain ⟨h1, h2⟩ := run_all (step := sml_step R) (St := fun i => (false, (i : Int))) (Lv := fun i => (0, (false, (i : Int)))) (t := (1, (false, (R.length : Int)))) (l := R) (p := fun r => decide (r.2.length ≤ 40)) (fun i hi => by
    by_cases h : R[i].2.length ≤ 40
    · have d : decide ((R[i].2.length : Int) > (40 : Int)) = false := decide_eq_false (by omega)
      simp only [sml_step, Tr.val, lt_t hi, nn_t, el_g hi, d, decide_eq_true h, wi1 hi (show (R.length : Int) ≤ 9223372036854775806 by omega), Bool.and_self, cond_true, cond_false]
    · have d : decide ((R[i].2.length : Int) > (40 : Int)) = true := decide_eq_true (by omega)
      simp only [sml_step, Tr.val, lt_t hi, nn_t, el_g hi, d, decide_eq_false h, Bool.and_self, cond_true, cond_false]) (by simp only [sml_step, Tr.val, Int.lt_irrefl, decide_false, cond_false])
  refine ⟨h1, ?_⟩
  rcases h2 with ⟨h, h3⟩ | ⟨h, j, _, _, _, h4⟩
  · exact .inl ⟨h, h3⟩
  · exact .inr ⟨h, j, h4⟩
theorem sm_sz {R : Rg} (h1 : R.length ≤ 40) (h2 : R.all (fun r => decide (r.2.length ≤ 40)) = true) : szG R = true := by
  unfold szG
  rw [decide_eq_true (show (R.length : Int) ≤ 9223372036854775807 by omega), Bool.true_and, List.all_eq_true]
  exact fun r hr => decide_eq_true (by have := of_decide_eq_true (List.all_eq_true.1 h2 r hr); omega)
def eqRg (A B : Rg) : Bool := decide (A = B)
set_option maxRecDepth 100000 in
theorem ctac_tree (R : (Ty.list (.prod (.int .i64) (.list (.prod (.int .i64) (.int .i64))))).den) : evalF Try.prog rgB_S52 (opens []) rgB_L58 9 41 [.ag [.d false false (.prod (.int .i64) (.list (.prod (.int .i64) (.int .i64)))) R]] = .br (((szG R) && (bif !valGB R then true else ((cta_cond ((0 : Int), R, (↑(List.length R) : Int)) ((0 : Int), (0 : Int))) && (Nat.beq (Prod.fst (cta_g ((0 : Int), R, (↑(List.length R) : Int)) ((0 : Int), (0 : Int)))) (0 : Nat)))))) (.ret (.one (.v false (.int .i64 (bif !valGB R then (0 : Int) else Prod.fst (Prod.snd (cta_g ((0 : Int), R, (↑(List.length R) : Int)) ((0 : Int), (0 : Int))))))))) (.bad 116) := by kernel_rfl
theorem ctac_val (R : (Ty.list (.prod (.int .i64) (.list (.prod (.int .i64) (.int .i64))))).den) (hc : (szG R) = true) : (.br (((szG R) && (bif !valGB R then true else ((cta_cond ((0 : Int), R, (↑(List.length R) : Int)) ((0 : Int), (0 : Int))) && (Nat.beq (Prod.fst (cta_g ((0 : Int), R, (↑(List.length R) : Int)) ((0 : Int), (0 : Int)))) (0 : Nat)))))) (.ret (.one (.v false (.int .i64 (bif !valGB R then (0 : Int) else Prod.fst (Prod.snd (cta_g ((0 : Int), R, (↑(List.length R) : Int)) ((0 : Int), (0 : Int))))))))) (.bad 116) : Tr AV).val = some (.one (.v false (.int .i64 (cntV R)))) := by
  obtain ⟨K, rfl⟩ : ∃ K : Rg, K = R := ⟨R, rfl⟩
  have hs : szG K = true := hc
  unfold cntV
  show cond _ _ _ = _
  cases hv : valGB K
  · simp only [hs, Bool.not_false, Bool.and_self, cond_true, cond_false, Tr.val]
  · obtain ⟨v1, v2⟩ := cta_run (valGB_iff.1 hv)
    simp only [hs, v1, v2, Nat.beq, Bool.not_true, Bool.and_self, cond_true, cond_false, Tr.val]
noncomputable def ctac_g : List AV → Option (Tr AV)
  | [.ag [.d _ _ (.prod (.int .i64) (.list (.prod (.int .i64) (.int .i64)))) R]] => some (.br (szG R) (.ret (.one (.v false (.int .i64 (cntV R))))) (.bad 900))
  | _ => none
set_option maxHeartbeats 4000000 in
theorem ctac_ok : FunOK Try.prog 41 ctac_g := by
  refine fun_ok (by kernel_rfl) (rgB_S52_ok) (rgB_L58_ok) 9 (On := (opens [])) (fun args t h => ?_)
  unfold ctac_g at h
  split at h
  · rename_i _ _ R
    simp only [Option.some.injEq] at h
    subst h
    refine ⟨[.ag [.d false false (.prod (.int .i64) (.list (.prod (.int .i64) (.int .i64)))) R]], rfl, fun fr w us h => h, fun r hr => ?_⟩
    obtain ⟨hc, hr⟩ := br_bad hr
    simp only [Tr.val, Option.some.injEq] at hr
    subst hr
    rw [ctac_tree]
    exact ctac_val R hc
  · cases h
noncomputable def rgB_S59 : Sums := addS 41 ctac_g rgB_S52
theorem rgB_S59_ok : SumOK Try.prog rgB_S59 := addS_ok (ctac_ok) (rgB_S52_ok)
set_option maxRecDepth 100000 in
theorem ctbc_tree (R : (Ty.list (.prod (.int .i64) (.list (.prod (.int .i64) (.int .i64))))).den) : evalF Try.prog rgB_S59 (opens []) rgB_L58 9 42 [.ag [.d false false (.prod (.int .i64) (.list (.prod (.int .i64) (.int .i64)))) R]] = .br (((szG R) && (bif !valGB R then true else ((ctb0_cond ((0 : Int), R) ((0 : Int), (0 : Int))) && (Nat.beq (Prod.fst (ctb0_g ((0 : Int), R) ((0 : Int), (0 : Int)))) (0 : Nat)))))) (.ret (.one (.v false (.int .i64 (bif !valGB R then (0 : Int) else Prod.fst (Prod.snd (ctb0_g ((0 : Int), R) ((0 : Int), (0 : Int))))))))) (.bad 116) := by kernel_rfl
theorem ctbc_val (R : (Ty.list (.prod (.int .i64) (.list (.prod (.int .i64) (.int .i64))))).den) (hc : (szG R) = true) : (.br (((szG R) && (bif !valGB R then true else ((ctb0_cond ((0 : Int), R) ((0 : Int), (0 : Int))) && (Nat.beq (Prod.fst (ctb0_g ((0 : Int), R) ((0 : Int), (0 : Int)))) (0 : Nat)))))) (.ret (.one (.v false (.int .i64 (bif !valGB R then (0 : Int) else Prod.fst (Prod.snd (ctb0_g ((0 : Int), R) ((0 : Int), (0 : Int))))))))) (.bad 116) : Tr AV).val = some (.one (.v false (.int .i64 (cntV R)))) := by
  obtain ⟨K, rfl⟩ : ∃ K : Rg, K = R := ⟨R, rfl⟩
  have hs : szG K = true := hc
  unfold cntV
  show cond _ _ _ = _
  cases hv : valGB K
  · simp only [hs, Bool.not_false, Bool.and_self, cond_true, cond_false, Tr.val]
  · obtain ⟨v1, v2⟩ := ctb0_run (valGB_iff.1 hv)
    simp only [hs, v1, v2, Nat.beq, Bool.not_true, Bool.and_self, cond_true, cond_false, Tr.val]
set_option maxHeartbeats 4000000 in
theorem ctbc_ok : FunOK Try.prog 42 ctac_g := by
  refine fun_ok (by kernel_rfl) (rgB_S59_ok) (rgB_L58_ok) 9 (On := (opens [])) (fun args t h => ?_)
  unfold ctac_g at h
  split at h
  · rename_i _ _ R
    simp only [Option.some.injEq] at h
    subst h
    refine ⟨[.ag [.d false false (.prod (.int .i64) (.list (.prod (.int .i64) (.int .i64)))) R]], rfl, fun fr w us h => h, fun r hr => ?_⟩
    obtain ⟨hc, hr⟩ := br_bad hr
    simp only [Tr.val, Option.some.injEq] at hr
    subst hr
    rw [ctbc_tree]
    exact ctbc_val R hc
  · cases h
noncomputable def rgB_S60 : Sums := addS 42 ctac_g rgB_S59
theorem rgB_S60_ok : SumOK Try.prog rgB_S60 := addS_ok (ctbc_ok) (rgB_S59_ok)
set_option maxRecDepth 100000 in
theorem smec_tree (A : (Ty.list (.prod (.int .i64) (.list (.prod (.int .i64) (.int .i64))))).den) (B : (Ty.list (.prod (.int .i64) (.list (.prod (.int .i64) (.int .i64))))).den) : evalF Try.prog rgB_S60 (opens []) rgB_L58 9 16 [.ag [.d false false (.prod (.int .i64) (.list (.prod (.int .i64) (.int .i64)))) A], .ag [.d false false (.prod (.int .i64) (.list (.prod (.int .i64) (.int .i64)))) B]] = .br ((bif (↑(List.length A) : Int) != (↑(List.length B) : Int) then true else ((sme0_cond (B, A) (false, (0 : Int))) && (bif Nat.beq (Prod.fst (sme0_g (B, A) (false, (0 : Int)))) (0 : Nat) then true else (Nat.beq (Prod.fst (sme0_g (B, A) (false, (0 : Int)))) (1 : Nat)))))) (.ret (.one (.v false (.bool (bif (↑(List.length A) : Int) != (↑(List.length B) : Int) then false else bif Nat.beq (Prod.fst (sme0_g (B, A) (false, (0 : Int)))) (0 : Nat) then Prod.fst (Prod.snd (sme0_g (B, A) (false, (0 : Int)))) else true))))) (.bad 116) := by kernel_rfl
theorem smec_val (A : (Ty.list (.prod (.int .i64) (.list (.prod (.int .i64) (.int .i64))))).den) (B : (Ty.list (.prod (.int .i64) (.list (.prod (.int .i64) (.int .i64))))).den) (hc : (szG A) = true) : (.br ((bif (↑(List.length A) : Int) != (↑(List.length B) : Int) then true else ((sme0_cond (B, A) (false, (0 : Int))) && (bif Nat.beq (Prod.fst (sme0_g (B, A) (false, (0 : Int)))) (0 : Nat) then true else (Nat.beq (Prod.fst (sme0_g (B, A) (false, (0 : Int)))) (1 : Nat)))))) (.ret (.one (.v false (.bool (bif (↑(List.length A) : Int) != (↑(List.length B) : Int) then false else bif Nat.beq (Prod.fst (sme0_g (B, A) (false, (0 : Int)))) (0 : Nat) then Prod.fst (Prod.snd (sme0_g (B, A) (false, (0 : Int)))) else true))))) (.bad 116) : Tr AV).val = some (.one (.v false (.bool (eqRg A B)))) := by
  obtain ⟨K, rfl⟩ : ∃ K : Rg, K = A := ⟨A, rfl⟩
  obtain ⟨M, rfl⟩ : ∃ K : Rg, K = B := ⟨B, rfl⟩
  have hn : szG K = true := hc
  unfold eqRg
  show cond _ _ _ = _
  by_cases hl : K.length = M.length
  · obtain ⟨v1, v2⟩ := sme0_run hl hn
    have b : ((K.length : Int) != (M.length : Int)) = false := by rw [hl]; exact bne_self_eq_false _
    rcases v2 with ⟨h, g⟩ | ⟨h, j, g⟩
    · subst h
      simp only [b, v1, g, Nat.beq, decide_true, Bool.and_self, cond_true, cond_false, Tr.val]
    · simp only [b, v1, g, decide_eq_false h, Nat.beq, Bool.and_self, cond_true, cond_false, Tr.val]
  · have b : ((K.length : Int) != (M.length : Int)) = true := by simp; omega
    have e : ¬ K = M := fun e => hl (by rw [e])
    simp only [b, decide_eq_false e, cond_true, Tr.val]
noncomputable def smec_g : List AV → Option (Tr AV)
  | [.ag [.d _ _ (.prod (.int .i64) (.list (.prod (.int .i64) (.int .i64)))) A], .ag [.d _ _ (.prod (.int .i64) (.list (.prod (.int .i64) (.int .i64)))) B]] => some (.br (szG A) (.ret (.one (.v false (.bool (eqRg A B))))) (.bad 900))
  | _ => none
set_option maxHeartbeats 4000000 in
theorem smec_ok : FunOK Try.prog 16 smec_g := by
  refine fun_ok (by kernel_rfl) (rgB_S60_ok) (rgB_L58_ok) 9 (On := (opens [])) (fun args t h => ?_)
  unfold smec_g at h
  split at h
  · rename_i _ _ A _ _ B
    simp only [Option.some.injEq] at h
    subst h
    refine ⟨[.ag [.d false false (.prod (.int .i64) (.list (.prod (.int .i64) (.int .i64)))) A], .ag [.d false false (.prod (.int .i64) (.list (.prod (.int .i64) (.int .i64)))) B]], rfl, fun fr w us h => h, fun r hr => ?_⟩
    obtain ⟨hc, hr⟩ := br_bad hr
    simp only [Tr.val, Option.some.injEq] at hr
    subst hr
    rw [smec_tree]
    exact smec_val A B hc
  · cases h
noncomputable def rgB_S61 : Sums := addS 16 smec_g rgB_S60
theorem rgB_S61_ok : SumOK Try.prog rgB_S61 := addS_ok (smec_ok) (rgB_S60_ok)
set_option maxRecDepth 100000 in
theorem smlc_tree (R : (Ty.list (.prod (.int .i64) (.list (.prod (.int .i64) (.int .i64))))).den) : evalF Try.prog rgB_S61 (opens []) rgB_L58 9 27 [.ag [.d false false (.prod (.int .i64) (.list (.prod (.int .i64) (.int .i64)))) R]] = .br ((bif decide ((↑(List.length R) : Int) > (40 : Int)) then true else ((sml_cond R (false, (0 : Int))) && (bif Nat.beq (Prod.fst (sml_g R (false, (0 : Int)))) (0 : Nat) then true else ((Nat.beq (Prod.fst (sml_g R (false, (0 : Int)))) (1 : Nat)) && (szG R)))))) (.ret (.one (.v false (.bool (bif decide ((↑(List.length R) : Int) > (40 : Int)) then false else bif Nat.beq (Prod.fst (sml_g R (false, (0 : Int)))) (0 : Nat) then Prod.fst (Prod.snd (sml_g R (false, (0 : Int)))) else decide (cntV R ≤ (600 : Int))))))) (.bad 116) := by kernel_rfl
set_option maxHeartbeats 4000000 in
theorem smlc_val (R : (Ty.list (.prod (.int .i64) (.list (.prod (.int .i64) (.int .i64))))).den) : (.br ((bif decide ((↑(List.length R) : Int) > (40 : Int)) then true else ((sml_cond R (false, (0 : Int))) && (bif Nat.beq (Prod.fst (sml_g R (false, (0 : Int)))) (0 : Nat) then true else ((Nat.beq (Prod.fst (sml_g R (false, (0 : Int)))) (1 : Nat)) && (szG R)))))) (.ret (.one (.v false (.bool (bif decide ((↑(List.length R) : Int) > (40 : Int)) then false else bif Nat.beq (Prod.fst (sml_g R (false, (0 : Int)))) (0 : Nat) then Prod.fst (Prod.snd (sml_g R (false, (0 : Int)))) else decide (cntV R ≤ (600 : Int))))))) (.bad 116) : Tr AV).val = some (.one (.v false (.bool (smG R)))) := by
  obtain ⟨K, rfl⟩ : ∃ K : Rg, K = R := ⟨R, rfl⟩
  unfold smG
  show cond _ _ _ = _
  by_cases hl : K.length ≤ 40
  · obtain ⟨v1, v2⟩ := sml_run hl
    have b : decide ((K.length : Int) > (40 : Int)) = false := decide_eq_false (by omega)
    rcases v2 with ⟨h, g⟩ | ⟨h, j, g⟩
    · have hs := sm_sz hl h
      simp only [b, v1, g, h, hs, decide_eq_true hl, Nat.beq, Bool.and_self, Bool.true_and, cond_true, cond_false, Tr.val]
    · simp only [b, v1, g, h, decide_eq_true hl, Nat.beq, Bool.and_self, Bool.false_and, Bool.true_and, cond_true, cond_false, Tr.val]
  · have b : decide ((K.length : Int) > (40 : Int)) = true := decide_eq_true (by omega)
    simp only [b, decide_eq_false hl, Bool.false_and, cond_true, Tr.val]
noncomputable def smlc_g : List AV → Option (Tr AV)
  | [.ag [.d _ _ (.prod (.int .i64) (.list (.prod (.int .i64) (.int .i64)))) R]] => some (.ret (.one (.v false (.bool (smG R)))))
  | _ => none
set_option maxHeartbeats 4000000 in
theorem smlc_ok : FunOK Try.prog 27 smlc_g := by
  refine fun_ok (by kernel_rfl) (rgB_S61_ok) (rgB_L58_ok) 9 (On := (opens [])) (fun args t h => ?_)
  unfold smlc_g at h
  split at h
  · rename_i _ _ R
    simp only [Option.some.injEq] at h
    subst h
    refine ⟨[.ag [.d false false (.prod (.int .i64) (.list (.prod (.int .i64) (.int .i64)))) R]], rfl, fun fr w us h => h, fun r hr => ?_⟩
    simp only [Tr.val, Option.some.injEq] at hr
    subst hr
    rw [smlc_tree]
    exact smlc_val R
  · cases h
noncomputable def rgB_S62 : Sums := addS 27 smlc_g rgB_S61
theorem rgB_S62_ok : SumOK Try.prog rgB_S62 := addS_ok (smlc_ok) (rgB_S61_ok)
end Go.Proofs.Ytacgchandefjgaa
