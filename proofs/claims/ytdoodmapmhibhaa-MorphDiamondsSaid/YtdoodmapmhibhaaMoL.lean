/-
  Texts in one: MoH, MoJ.
-/
import Derived.Test.YtdoodmapmhibhaaProg
import Derived.Test.YtdoodmapmhibhaaFvX
import Derived.Test.YtdoodmapmhibhaaFvZ
import Derived.Test.YtdoodmapmhibhaaAut
import Derived.Test.YtdoodmapmhibhaaRd
import Derived.Test.YtdoodmapmhibhaaPl
import Derived.Test.YtdoodmapmhibhaaScn
import Derived.Test.YtdoodmapmhibhaaRegM
import Derived.Test.YtdoodmapmhibhaaMor
import Derived.Test.YtdoodmapmhibhaaRgA
import Derived.Test.YtdoodmapmhibhaaRgB
import Derived.Test.YtdoodmapmhibhaaRgC
import Derived.Test.YtdoodmapmhibhaaRgD
import Derived.Test.YtdoodmapmhibhaaMoB
import Derived.Test.YtdoodmapmhibhaaMoC
import Derived.Test.YtdoodmapmhibhaaMoD
import Derived.Test.YtdoodmapmhibhaaMoW
namespace Go.Proofs.Ytdoodmapmhibhaa
open Go
theorem ng_gt : ∀ {R : Rg} {lo : Int}, Ng lo R → ∀ r ∈ R, lo < r.1
  | q :: R, lo, ⟨h1, _, h3⟩, r, hr => by
    rcases List.mem_cons.1 hr with rfl | hr
    · exact h1
    · have := ng_gt h3 r hr
      omega
theorem memG_at : ∀ {R : Rg} {lo : Int}, Ng lo R → ∀ r ∈ R, ∀ x, memG R x r.1 = memB r.2 x
  | q :: R, lo, ⟨_, _, h3⟩, r, hr, x => by
    rw [memG_cons]
    rcases List.mem_cons.1 hr with rfl | hr
    · rw [decide_eq_true rfl, Bool.true_and, Ng.low h3 (Int.le_refl _), Bool.or_false]
    · have g : q.1 < r.1 := ng_gt h3 r hr
      rw [decide_eq_false (show ¬ q.1 = r.1 by omega), Bool.false_and, Bool.false_or, memG_at h3 r hr x]
theorem memG_no {R : Rg} {x y : Int} (h : ∀ r ∈ R, r.1 ≠ y) : memG R x y = false := by
  unfold memG
  rw [← Bool.not_eq_true, List.any_eq_true]
  rintro ⟨r, hr, e⟩
  rw [Bool.and_eq_true, decide_eq_true_eq] at e
  exact h r hr e.1
theorem ng_sort : ∀ {R : Rg} {lo : Int}, Ng lo R → ∀ (i j : Nat) (hi : i < R.length) (hj : j < R.length), i < j → R[i].1 < R[j].1
  | q :: R, lo, ⟨_, _, h3⟩, 0, j + 1, _, hj, _ => ng_gt h3 _ (List.getElem_mem (show j < R.length by simpa using hj))
  | q :: R, lo, ⟨_, _, h3⟩, i + 1, j + 1, hi, hj, h => ng_sort h3 i j (by simpa using hi) (by simpa using hj) (by omega)
  | q :: R, lo, ⟨_, _, h3⟩, i, 0, _, _, h => absurd h (Nat.not_lt_zero _)
theorem half_w {i j : Nat} (h : i + j ≤ 4611686018427387904) : IntKind.wrap .i64 (Int.fdiv (IntKind.wrap IntKind.u64 (IntKind.wrap .i64 ((i : Int) + (j : Int)))) ((2 : Int) ^ min (Int.toNat (1 : Int)) (IntKind.bits IntKind.u64))) = (((i + j) / 2 : Nat) : Int) := by
  have e2 : (2 : Int) ^ min (Int.toNat (1 : Int)) (IntKind.bits IntKind.u64) = 2 := by kernel_rfl
  rw [wid (x := (i : Int) + (j : Int)) (by omega) (by omega), IntWalk.u64_in _ ⟨by omega, by omega⟩, e2, Int.fdiv_eq_ediv_of_nonneg _ (by omega), wid (by omega) (by omega)]
  omega
def cmpI (a y : Int) : Int := bif decide (a < y) then -1 else bif decide (a > y) then 1 else 0
abbrev row_U : Type := Int × (Ty.list (.prod (.int .i64) (.list (.prod (.int .i64) (.int .i64))))).den
abbrev row_V : Type := (Ty.list (.prod (.int .i64) (.int .i64))).den × Int
noncomputable def row_St (u : row_U) (v : row_V) : Stt := ⟨[.one .junk, .one (.v false (.int .i64 u.1)), .one (.p 0 0), .one .junk, .one (.d false false (.prod (.int .i64) (.int .i64)) v.1), .one (.v false (.int .i64 v.2)), .one .junk, .one .junk, .one .junk, .one .junk, .one .junk, .one .junk, .one .junk, .one .junk, .one .junk, .one .junk, .one .junk, .one .junk, .one .junk, .one .junk, .one .junk, .one .junk, .one .junk, .one .junk, .one .junk, .one .junk, .one .junk], [(0, .cells [.d false false (.prod (.int .i64) (.list (.prod (.int .i64) (.int .i64)))) u.2])], 1003⟩
noncomputable def row_step (u : row_U) (v : row_V) : Tr (row_V ⊕ (Nat × row_V)) :=
  match u, v with
  | (q0, q3), (q1, q2) => .br (decide (q2 < (↑(List.length q3) : Int))) (.br (decide ((0 : Int) ≤ q2) && decide (q2 < (↑(List.length q3) : Int))) (.br (Prod.fst (el_ilii q3 q2) == q0) (.br (decide ((0 : Int) ≤ q2) && decide (q2 < (↑(List.length q3) : Int))) (.ret (.inr (0, (Prod.snd (el_ilii q3 q2), q2)))) (.bad 29)) (.ret (.inl (q1, IntKind.wrap .i64 (q2 + (1 : Int)))))) (.bad 29)) (.ret (.inr (1, (q1, q2))))
set_option maxRecDepth 100000 in
set_option maxHeartbeats 4000000 in
theorem row_step_eq : ∀ (u : row_U) (v : row_V), (evalC Try.prog (evalB Try.prog moF_S58 (opens []) moF_L55 7).1 (evalB Try.prog moF_S58 (opens []) moF_L55 7).2 (opens []) (moF_L55 56) 100000 (0 :: [0, 1, 0, 1]) (loopOf (bodyOf Try.prog 56) [1, 0, 1, 0]) (row_St u v) []).bind (finF [0, 3, 6, 7, 8, 9, 10, 11, 12, 13, 14, 15, 16, 17, 18, 19, 20, 21, 22, 23, 24, 25, 26] [⟨100004, some 4, 0, 0, 0, (.prod (.int .i64) (.int .i64))⟩] [0] [] 1003) = (row_step u v).bind (outA (row_St u) [.ret, .exit 0]) := by
  rintro ⟨q0, q3⟩ ⟨q1, q2⟩
  kernel_rfl
noncomputable def row_rd (b : Bool) (o1 : Option AV) (o2 : Option AV) (o4 : Option AV) (o5 : Option AV) (own : Own) : Option (row_U × row_V) := zrT b <| zrO o1 fun za1 => zrA1 za1 fun zc2 => zrI .i64 zc2 fun q0 => zrO o2 fun za3 => zrA1 za3 fun zc4 => zrP 0 0 zc4 <| zrO o4 fun za5 => zrA1 za5 fun zc6 => zrD (.prod (.int .i64) (.int .i64)) zc6 fun q1 => zrO o5 fun za7 => zrA1 za7 fun zc8 => zrI .i64 zc8 fun q2 => zrL own fun zq9 zw10 => zrKey 0 zq9 fun zk11 => zrC zk11 fun zl12 => zrL zl12 fun zc13 zr14 => zrD (.prod (.int .i64) (.list (.prod (.int .i64) (.int .i64)))) zc13 fun q3 => zrN zr14 <| zrN zw10 <| some ((q0, q3), (q1, q2))
noncomputable def row_can (st : Stt) : Stt := canA [0, 3, 6, 7, 8, 9, 10, 11, 12, 13, 14, 15, 16, 17, 18, 19, 20, 21, 22, 23, 24, 25, 26] [⟨100004, some 4, 0, 0, 0, (.prod (.int .i64) (.int .i64))⟩] [0] [] 1003 st
noncomputable def row_cok (st : Stt) : Bool := canAok [0, 3, 6, 7, 8, 9, 10, 11, 12, 13, 14, 15, 16, 17, 18, 19, 20, 21, 22, 23, 24, 25, 26] [⟨100004, some 4, 0, 0, 0, (.prod (.int .i64) (.int .i64))⟩] [0] [] 1003 st
noncomputable def row_read (st : Stt) : Option (row_U × row_V) := row_rd (row_cok st && (staysA [⟨100004, some 4, 0, 0, 0, (.prod (.int .i64) (.int .i64))⟩] [0] st.own && juAll [0, 3, 6, 7, 8, 9, 10, 11, 12, 13, 14, 15, 16, 17, 18, 19, 20, 21, 22, 23, 24, 25, 26] (row_can st).tm 27)) (row_can st).tm[1]? (row_can st).tm[2]? (row_can st).tm[4]? (row_can st).tm[5]? (row_can st).own
set_option maxRecDepth 100000 in
set_option maxHeartbeats 4000000 in
theorem row_rd_ok {b : Bool} {tm : List AV} {own : Own} {u : row_U} {v : row_V} (hj : b = true → juAll [0, 3, 6, 7, 8, 9, 10, 11, 12, 13, 14, 15, 16, 17, 18, 19, 20, 21, 22, 23, 24, 25, 26] tm 27 = true) (h : row_rd b tm[1]? tm[2]? tm[4]? tm[5]? own = some (u, v)) : b = true ∧ tm = (row_St u v).tm ∧ own = (row_St u v).own := by
  unfold row_rd at h
  obtain ⟨rfl, h0⟩ := zrT_some h
  obtain ⟨za1, e1, h1⟩ := zrO_some h0
  obtain ⟨zc2, rfl, h2⟩ := zrA1_some h1
  obtain ⟨q0, rfl, h3⟩ := zrI_some h2
  obtain ⟨za3, e2, h4⟩ := zrO_some h3
  obtain ⟨zc4, rfl, h5⟩ := zrA1_some h4
  obtain ⟨rfl, h6⟩ := zrP_some h5
  obtain ⟨za5, e4, h7⟩ := zrO_some h6
  obtain ⟨zc6, rfl, h8⟩ := zrA1_some h7
  obtain ⟨q1, rfl, h9⟩ := zrD_some h8
  obtain ⟨za7, e5, h10⟩ := zrO_some h9
  obtain ⟨zc8, rfl, h11⟩ := zrA1_some h10
  obtain ⟨q2, rfl, h12⟩ := zrI_some h11
  obtain ⟨zq9, zw10, rfl, h13⟩ := zrL_some h12
  obtain ⟨zk11, rfl, h14⟩ := zrKey_some h13
  obtain ⟨zl12, rfl, h15⟩ := zrC_some h14
  obtain ⟨zc13, zr14, rfl, h16⟩ := zrL_some h15
  obtain ⟨q3, rfl, h17⟩ := zrD_some h16
  obtain ⟨rfl, h18⟩ := zrN_some h17
  obtain ⟨rfl, h19⟩ := zrN_some h18
  have h := Option.some.inj h19
  have hu := congrArg Prod.fst h
  have hv := congrArg Prod.snd h
  dsimp only at hu hv
  subst hu
  subst hv
  exact ⟨rfl, (tm_fill (hj rfl) (Lv := [(1, .one (.v false (.int .i64 q0))), (2, .one (.p 0 0)), (4, .one (.d false false (.prod (.int .i64) (.int .i64)) q1)), (5, .one (.v false (.int .i64 q2)))]) (by kernel_rfl) ⟨e1, e2, e4, e5, trivial⟩).trans (by kernel_rfl), rfl⟩
theorem row_read_ok (st : Stt) (u : row_U) (v : row_V) (h : row_read st = some (u, v)) : row_cok st = true ∧ staysA [⟨100004, some 4, 0, 0, 0, (.prod (.int .i64) (.int .i64))⟩] [0] st.own = true ∧ row_can st = row_St u v := by
  obtain ⟨h1, h2, h3⟩ := row_rd_ok (fun hb => by rw [Bool.and_eq_true, Bool.and_eq_true] at hb; exact hb.2.2) h
  rw [Bool.and_eq_true, Bool.and_eq_true] at h1
  refine ⟨h1.1, h1.2.1, ?_⟩
  have e : row_can st = ⟨(row_can st).tm, (row_can st).own, 1003⟩ := by kernel_rfl
  rw [e, h2, h3]
  rfl
noncomputable def row_cond (u : row_U) (v : row_V) : Bool := runC (row_step u) v
noncomputable def row_g (u : row_U) (v : row_V) : Nat × row_V := runG (row_step u) v
theorem row_hg : ∀ (u : row_U) (v : row_V), row_cond u v = true → loopN (row_step u) ((fun u v => runF (row_step u) v) u v) v = some (row_g u v) := by
  exact fun u v h => run_hg h
noncomputable def row_m (st : Stt) : Option (Tr (Ex × Stt)) := sumM row_read row_cond row_St row_g [(0, .ret), (1, .exit 0)] st
noncomputable def moH_L51 : FuncId → Loops := addL 56 [0, 1, 0, 1] row_m moF_L55
set_option maxRecDepth 100000 in
set_option maxHeartbeats 4000000 in
theorem moH_L51_ok : LoopsOK Try.prog moH_L51 :=
  loop_sumF (body := (bodyOf Try.prog 56)) (c := (loopOf (bodyOf Try.prog 56) [1, 0, 1, 0])) (kinds := [.ret, .exit 0]) (allow := [(0, .ret), (1, .exit 0)]) (St := row_St) (step := row_step) (W := [0, 3, 6, 7, 8, 9, 10, 11, 12, 13, 14, 15, 16, 17, 18, 19, 20, 21, 22, 23, 24, 25, 26]) (As := [⟨100004, some 4, 0, 0, 0, (.prod (.int .i64) (.int .i64))⟩]) (ks := [0]) (dd := []) (nx := 1003) (n := 100000) (g := row_g) (cond := row_cond) (fuel := (fun u v => runF (row_step u) v)) (read := row_read) (by kernel_rfl) (moF_S58_ok) (moF_L55_ok) 7 ⟨Try.f56, by kernel_rfl, by kernel_rfl⟩ (by kernel_rfl) (by kernel_rfl) (by kernel_rfl) row_step_eq row_hg row_read_ok
abbrev inn_U : Type := (Ty.list (.prod (.int .i64) (.int .i64))).den × Int
abbrev inn_V : Type := Bool × Int
noncomputable def inn_St (u : inn_U) (v : inn_V) : Stt := ⟨[.one (.d false false (.prod (.int .i64) (.int .i64)) u.1), .one (.v false (.int .i64 u.2)), .one .junk, .one .junk, .one (.v false (.bool v.1)), .one (.v false (.int .i64 v.2)), .one .junk, .one .junk, .one .junk, .one .junk, .one .junk, .one .junk, .one .junk, .one .junk, .one .junk, .one .junk, .one .junk, .one .junk, .one .junk, .one .junk, .one .junk, .one .junk, .one .junk, .one .junk, .one .junk, .one .junk, .one .junk, .one .junk], [], 1002⟩
noncomputable def inn_step (u : inn_U) (v : inn_V) : Tr (inn_V ⊕ (Nat × inn_V)) :=
  match u, v with
  | (q0, q1), (q2, q3) => .br (decide (q3 < (↑(List.length q0) : Int))) (.br (decide ((0 : Int) ≤ q3) && decide (q3 < (↑(List.length q0) : Int))) (.br ((bif decide (Prod.fst (el_ii q0 q3) ≤ q1) then (decide ((0 : Int) ≤ q3) && decide (q3 < (↑(List.length q0) : Int))) else true)) (.br (bif decide (Prod.fst (el_ii q0 q3) ≤ q1) then decide (q1 < Prod.snd (el_ii q0 q3)) else false) (.ret (.inr (0, (true, q3)))) (.ret (.inl (q2, IntKind.wrap .i64 (q3 + (1 : Int)))))) (.bad 117)) (.bad 29)) (.ret (.inr (1, (q2, q3))))
set_option maxRecDepth 100000 in
set_option maxHeartbeats 4000000 in
theorem inn_step_eq : ∀ (u : inn_U) (v : inn_V), (evalC Try.prog (evalB Try.prog moF_S58 (opens []) moH_L51 7).1 (evalB Try.prog moF_S58 (opens []) moH_L51 7).2 (opens []) (moH_L51 55) 100000 (0 :: [0, 1, 0, 1]) (loopOf (bodyOf Try.prog 55) [1, 0, 1, 0]) (inn_St u v) []).bind (finF [2, 3, 6, 7, 8, 9, 10, 11, 12, 13, 14, 15, 16, 17, 18, 19, 20, 21, 22, 23, 24, 25, 26, 27] [] [] [] 1002) = (inn_step u v).bind (outA (inn_St u) [.ret, .exit 0]) := by
  rintro ⟨q0, q1⟩ ⟨q2, q3⟩
  kernel_rfl
noncomputable def inn_rd (b : Bool) (o0 : Option AV) (o1 : Option AV) (o4 : Option AV) (o5 : Option AV) (own : Own) : Option (inn_U × inn_V) := zrT b <| zrO o0 fun za1 => zrA1 za1 fun zc2 => zrD (.prod (.int .i64) (.int .i64)) zc2 fun q0 => zrO o1 fun za3 => zrA1 za3 fun zc4 => zrI .i64 zc4 fun q1 => zrO o4 fun za5 => zrA1 za5 fun zc6 => zrB zc6 fun q2 => zrO o5 fun za7 => zrA1 za7 fun zc8 => zrI .i64 zc8 fun q3 => zrN own <| some ((q0, q1), (q2, q3))
noncomputable def inn_can (st : Stt) : Stt := canA [2, 3, 6, 7, 8, 9, 10, 11, 12, 13, 14, 15, 16, 17, 18, 19, 20, 21, 22, 23, 24, 25, 26, 27] [] [] [] 1002 st
noncomputable def inn_cok (st : Stt) : Bool := canAok [2, 3, 6, 7, 8, 9, 10, 11, 12, 13, 14, 15, 16, 17, 18, 19, 20, 21, 22, 23, 24, 25, 26, 27] [] [] [] 1002 st
noncomputable def inn_read (st : Stt) : Option (inn_U × inn_V) := inn_rd (inn_cok st && (staysA [] [] st.own && juAll [2, 3, 6, 7, 8, 9, 10, 11, 12, 13, 14, 15, 16, 17, 18, 19, 20, 21, 22, 23, 24, 25, 26, 27] (inn_can st).tm 28)) (inn_can st).tm[0]? (inn_can st).tm[1]? (inn_can st).tm[4]? (inn_can st).tm[5]? (inn_can st).own
set_option maxRecDepth 100000 in
set_option maxHeartbeats 4000000 in
theorem inn_rd_ok {b : Bool} {tm : List AV} {own : Own} {u : inn_U} {v : inn_V} (hj : b = true → juAll [2, 3, 6, 7, 8, 9, 10, 11, 12, 13, 14, 15, 16, 17, 18, 19, 20, 21, 22, 23, 24, 25, 26, 27] tm 28 = true) (h : inn_rd b tm[0]? tm[1]? tm[4]? tm[5]? own = some (u, v)) : b = true ∧ tm = (inn_St u v).tm ∧ own = (inn_St u v).own := by
  unfold inn_rd at h
  obtain ⟨rfl, h0⟩ := zrT_some h
  obtain ⟨za1, e0, h1⟩ := zrO_some h0
  obtain ⟨zc2, rfl, h2⟩ := zrA1_some h1
  obtain ⟨q0, rfl, h3⟩ := zrD_some h2
  obtain ⟨za3, e1, h4⟩ := zrO_some h3
  obtain ⟨zc4, rfl, h5⟩ := zrA1_some h4
  obtain ⟨q1, rfl, h6⟩ := zrI_some h5
  obtain ⟨za5, e4, h7⟩ := zrO_some h6
  obtain ⟨zc6, rfl, h8⟩ := zrA1_some h7
  obtain ⟨q2, rfl, h9⟩ := zrB_some h8
  obtain ⟨za7, e5, h10⟩ := zrO_some h9
  obtain ⟨zc8, rfl, h11⟩ := zrA1_some h10
  obtain ⟨q3, rfl, h12⟩ := zrI_some h11
  obtain ⟨rfl, h13⟩ := zrN_some h12
  have h := Option.some.inj h13
  have hu := congrArg Prod.fst h
  have hv := congrArg Prod.snd h
  dsimp only at hu hv
  subst hu
  subst hv
  exact ⟨rfl, (tm_fill (hj rfl) (Lv := [(0, .one (.d false false (.prod (.int .i64) (.int .i64)) q0)), (1, .one (.v false (.int .i64 q1))), (4, .one (.v false (.bool q2))), (5, .one (.v false (.int .i64 q3)))]) (by kernel_rfl) ⟨e0, e1, e4, e5, trivial⟩).trans (by kernel_rfl), rfl⟩
theorem inn_read_ok (st : Stt) (u : inn_U) (v : inn_V) (h : inn_read st = some (u, v)) : inn_cok st = true ∧ staysA [] [] st.own = true ∧ inn_can st = inn_St u v := by
  obtain ⟨h1, h2, h3⟩ := inn_rd_ok (fun hb => by rw [Bool.and_eq_true, Bool.and_eq_true] at hb; exact hb.2.2) h
  rw [Bool.and_eq_true, Bool.and_eq_true] at h1
  refine ⟨h1.1, h1.2.1, ?_⟩
  have e : inn_can st = ⟨(inn_can st).tm, (inn_can st).own, 1002⟩ := by kernel_rfl
  rw [e, h2, h3]
  rfl
noncomputable def inn_cond (u : inn_U) (v : inn_V) : Bool := runC (inn_step u) v
noncomputable def inn_g (u : inn_U) (v : inn_V) : Nat × inn_V := runG (inn_step u) v
theorem inn_hg : ∀ (u : inn_U) (v : inn_V), inn_cond u v = true → loopN (inn_step u) ((fun u v => runF (inn_step u) v) u v) v = some (inn_g u v) := by
  exact fun u v h => run_hg h
noncomputable def inn_m (st : Stt) : Option (Tr (Ex × Stt)) := sumM inn_read inn_cond inn_St inn_g [(0, .ret), (1, .exit 0)] st
noncomputable def moH_L52 : FuncId → Loops := addL 55 [0, 1, 0, 1] inn_m moH_L51
set_option maxRecDepth 100000 in
set_option maxHeartbeats 4000000 in
theorem moH_L52_ok : LoopsOK Try.prog moH_L52 :=
  loop_sumF (body := (bodyOf Try.prog 55)) (c := (loopOf (bodyOf Try.prog 55) [1, 0, 1, 0])) (kinds := [.ret, .exit 0]) (allow := [(0, .ret), (1, .exit 0)]) (St := inn_St) (step := inn_step) (W := [2, 3, 6, 7, 8, 9, 10, 11, 12, 13, 14, 15, 16, 17, 18, 19, 20, 21, 22, 23, 24, 25, 26, 27]) (As := []) (ks := []) (dd := []) (nx := 1002) (n := 100000) (g := inn_g) (cond := inn_cond) (fuel := (fun u v => runF (inn_step u) v)) (read := inn_read) (by kernel_rfl) (moF_S58_ok) (moH_L51_ok) 7 ⟨Try.f55, by kernel_rfl, by kernel_rfl⟩ (by kernel_rfl) (by kernel_rfl) (by kernel_rfl) inn_step_eq inn_hg inn_read_ok
abbrev cta_U : Type := Int × (Ty.list (.prod (.int .i64) (.int .i64))).den × Int
abbrev cta_V : Type := Bool × Int
noncomputable def cta_St (u : cta_U) (v : cta_V) : Stt := ⟨[.one .junk, .one (.v false (.int .i64 u.1)), .one .junk, .one .junk, .one (.v false (.bool v.1)), .one .junk, .one .junk, .one .junk, .one .junk, .one .junk, .one (.d false false (.prod (.int .i64) (.int .i64)) u.2.1), .one (.v false (.int .i64 u.2.2)), .one (.v false (.int .i64 v.2)), .one .junk, .one .junk, .one .junk, .one .junk, .one .junk, .one .junk, .one .junk, .one .junk, .one .junk, .one .junk, .one .junk, .one .junk, .one .junk, .one .junk], [], 1007⟩
noncomputable def cta_step (u : cta_U) (v : cta_V) : Tr (cta_V ⊕ (Nat × cta_V)) :=
  match u, v with
  | (q0, q2, q3), (q1, q4) => .br (decide (q4 < q3)) (.br (decide ((0 : Int) ≤ q4) && decide (q4 < (↑(List.length q2) : Int))) (.br (bif decide (Prod.fst (el_ii q2 q4) ≤ q0) then decide (q0 < Prod.snd (el_ii q2 q4)) else false) (.ret (.inr (0, (true, q4)))) (.ret (.inl (q1, IntKind.wrap .i64 (q4 + (1 : Int)))))) (.bad 29)) (.ret (.inr (1, (q1, q4))))
set_option maxRecDepth 100000 in
set_option maxHeartbeats 4000000 in
theorem cta_step_eq : ∀ (u : cta_U) (v : cta_V), (evalC Try.prog (evalB Try.prog moF_S58 (opens []) moH_L52 7).1 (evalB Try.prog moF_S58 (opens []) moH_L52 7).2 (opens []) (moH_L52 60) 100000 (0 :: [0, 1, 0, 1, 1]) (loopOf (bodyOf Try.prog 60) [1, 1, 0, 1, 0]) (cta_St u v) []).bind (finF [0, 2, 3, 5, 6, 7, 8, 9, 13, 14, 15, 16, 17, 18, 19, 20, 21, 22, 23, 24, 25, 26] [] [] [] 1007) = (cta_step u v).bind (outA (cta_St u) [.ret, .exit 0]) := by
  rintro ⟨q0, q2, q3⟩ ⟨q1, q4⟩
  kernel_rfl
noncomputable def cta_rd (b : Bool) (o1 : Option AV) (o4 : Option AV) (o10 : Option AV) (o11 : Option AV) (o12 : Option AV) (own : Own) : Option (cta_U × cta_V) := zrT b <| zrO o1 fun za1 => zrA1 za1 fun zc2 => zrI .i64 zc2 fun q0 => zrO o4 fun za3 => zrA1 za3 fun zc4 => zrB zc4 fun q1 => zrO o10 fun za5 => zrA1 za5 fun zc6 => zrD (.prod (.int .i64) (.int .i64)) zc6 fun q2 => zrO o11 fun za7 => zrA1 za7 fun zc8 => zrI .i64 zc8 fun q3 => zrO o12 fun za9 => zrA1 za9 fun zc10 => zrI .i64 zc10 fun q4 => zrN own <| some ((q0, q2, q3), (q1, q4))
noncomputable def cta_can (st : Stt) : Stt := canA [0, 2, 3, 5, 6, 7, 8, 9, 13, 14, 15, 16, 17, 18, 19, 20, 21, 22, 23, 24, 25, 26] [] [] [] 1007 st
noncomputable def cta_cok (st : Stt) : Bool := canAok [0, 2, 3, 5, 6, 7, 8, 9, 13, 14, 15, 16, 17, 18, 19, 20, 21, 22, 23, 24, 25, 26] [] [] [] 1007 st
noncomputable def cta_read (st : Stt) : Option (cta_U × cta_V) := cta_rd (cta_cok st && (staysA [] [] st.own && juAll [0, 2, 3, 5, 6, 7, 8, 9, 13, 14, 15, 16, 17, 18, 19, 20, 21, 22, 23, 24, 25, 26] (cta_can st).tm 27)) (cta_can st).tm[1]? (cta_can st).tm[4]? (cta_can st).tm[10]? (cta_can st).tm[11]? (cta_can st).tm[12]? (cta_can st).own
set_option maxRecDepth 100000 in
set_option maxHeartbeats 4000000 in
theorem cta_rd_ok {b : Bool} {tm : List AV} {own : Own} {u : cta_U} {v : cta_V} (hj : b = true → juAll [0, 2, 3, 5, 6, 7, 8, 9, 13, 14, 15, 16, 17, 18, 19, 20, 21, 22, 23, 24, 25, 26] tm 27 = true) (h : cta_rd b tm[1]? tm[4]? tm[10]? tm[11]? tm[12]? own = some (u, v)) : b = true ∧ tm = (cta_St u v).tm ∧ own = (cta_St u v).own := by
  unfold cta_rd at h
  obtain ⟨rfl, h0⟩ := zrT_some h
  obtain ⟨za1, e1, h1⟩ := zrO_some h0
  obtain ⟨zc2, rfl, h2⟩ := zrA1_some h1
  obtain ⟨q0, rfl, h3⟩ := zrI_some h2
  obtain ⟨za3, e4, h4⟩ := zrO_some h3
  obtain ⟨zc4, rfl, h5⟩ := zrA1_some h4
  obtain ⟨q1, rfl, h6⟩ := zrB_some h5
  obtain ⟨za5, e10, h7⟩ := zrO_some h6
  obtain ⟨zc6, rfl, h8⟩ := zrA1_some h7
  obtain ⟨q2, rfl, h9⟩ := zrD_some h8
  obtain ⟨za7, e11, h10⟩ := zrO_some h9
  obtain ⟨zc8, rfl, h11⟩ := zrA1_some h10
  obtain ⟨q3, rfl, h12⟩ := zrI_some h11
  obtain ⟨za9, e12, h13⟩ := zrO_some h12
  obtain ⟨zc10, rfl, h14⟩ := zrA1_some h13
  obtain ⟨q4, rfl, h15⟩ := zrI_some h14
  obtain ⟨rfl, h16⟩ := zrN_some h15
  have h := Option.some.inj h16
  have hu := congrArg Prod.fst h
  have hv := congrArg Prod.snd h
  dsimp only at hu hv
  subst hu
  subst hv
  exact ⟨rfl, (tm_fill (hj rfl) (Lv := [(1, .one (.v false (.int .i64 q0))), (4, .one (.v false (.bool q1))), (10, .one (.d false false (.prod (.int .i64) (.int .i64)) q2)), (11, .one (.v false (.int .i64 q3))), (12, .one (.v false (.int .i64 q4)))]) (by kernel_rfl) ⟨e1, e4, e10, e11, e12, trivial⟩).trans (by kernel_rfl), rfl⟩
theorem cta_read_ok (st : Stt) (u : cta_U) (v : cta_V) (h : cta_read st = some (u, v)) : cta_cok st = true ∧ staysA [] [] st.own = true ∧ cta_can st = cta_St u v := by
  obtain ⟨h1, h2, h3⟩ := cta_rd_ok (fun hb => by rw [Bool.and_eq_true, Bool.and_eq_true] at hb; exact hb.2.2) h
  rw [Bool.and_eq_true, Bool.and_eq_true] at h1
  refine ⟨h1.1, h1.2.1, ?_⟩
  have e : cta_can st = ⟨(cta_can st).tm, (cta_can st).own, 1007⟩ := by kernel_rfl
  rw [e, h2, h3]
  rfl
noncomputable def cta_cond (u : cta_U) (v : cta_V) : Bool := runC (cta_step u) v
noncomputable def cta_g (u : cta_U) (v : cta_V) : Nat × cta_V := runG (cta_step u) v
theorem cta_hg : ∀ (u : cta_U) (v : cta_V), cta_cond u v = true → loopN (cta_step u) ((fun u v => runF (cta_step u) v) u v) v = some (cta_g u v) := by
  exact fun u v h => run_hg h
noncomputable def cta_m (st : Stt) : Option (Tr (Ex × Stt)) := sumM cta_read cta_cond cta_St cta_g [(0, .ret), (1, .exit 0)] st
noncomputable def moH_L53 : FuncId → Loops := addL 60 [0, 1, 0, 1, 1] cta_m moH_L52
set_option maxRecDepth 100000 in
set_option maxHeartbeats 4000000 in
theorem moH_L53_ok : LoopsOK Try.prog moH_L53 :=
  loop_sumF (body := (bodyOf Try.prog 60)) (c := (loopOf (bodyOf Try.prog 60) [1, 1, 0, 1, 0])) (kinds := [.ret, .exit 0]) (allow := [(0, .ret), (1, .exit 0)]) (St := cta_St) (step := cta_step) (W := [0, 2, 3, 5, 6, 7, 8, 9, 13, 14, 15, 16, 17, 18, 19, 20, 21, 22, 23, 24, 25, 26]) (As := []) (ks := []) (dd := []) (nx := 1007) (n := 100000) (g := cta_g) (cond := cta_cond) (fuel := (fun u v => runF (cta_step u) v)) (read := cta_read) (by kernel_rfl) (moF_S58_ok) (moH_L52_ok) 7 ⟨Try.f60, by kernel_rfl, by kernel_rfl⟩ (by kernel_rfl) (by kernel_rfl) (by kernel_rfl) cta_step_eq cta_hg cta_read_ok
theorem inn_run {L : Rl} {x : Int} (hn : L.length ≤ 100000) : inn_cond (L, x) (false, 0) = true ∧ ((memB L x = false ∧ inn_g (L, x) (false, 0) = (1, (false, (L.length : Int)))) ∨ (memB L x = true ∧ ∃ j : Nat, inn_g (L, x) (false, 0) = (0, (true, (j : Int))))) := by
  obtain ⟨h1, h2⟩ := run_all (step := inn_step (L, x)) (St := fun i => (false, (i : Int))) (Lv := fun i => (0, (true, (i : Int)))) (t := (1, (false, (L.length : Int)))) (l := L) (p := fun r => !(bif decide (r.1 ≤ x) then decide (x < r.2) else false)) (fun i hi => by
    simp only [inn_step, Tr.val, lt_t hi, nn_t, el_r hi, wi1 hi (show (L.length : Int) ≤ 9223372036854775806 by omega), Bool.and_self, Bool.cond_self, cond_true]
    cases (bif decide (L[i].1 ≤ x) then decide (x < L[i].2) else false) <;> rfl) (by simp only [inn_step, Tr.val, Int.lt_irrefl, decide_false, cond_false])
  refine ⟨h1, ?_⟩
  rw [memB_of _ rfl] at h2
  rcases h2 with ⟨h, h3⟩ | ⟨h, j, _, _, _, h4⟩
  · exact .inl ⟨by simpa using h, h3⟩
  · exact .inr ⟨by simpa using h, j, h4⟩
theorem cta_run {L : Rl} {x : Int} (hn : L.length ≤ 100000) : cta_cond (x, L, (L.length : Int)) (false, 0) = true ∧ ((memB L x = false ∧ cta_g (x, L, (L.length : Int)) (false, 0) = (1, (false, (L.length : Int)))) ∨ (memB L x = true ∧ ∃ j : Nat, cta_g (x, L, (L.length : Int)) (false, 0) = (0, (true, (j : Int))))) := by
  obtain ⟨h1, h2⟩ := run_all (step := cta_step (x, L, (L.length : Int))) (St := fun i => (false, (i : Int))) (Lv := fun i => (0, (true, (i : Int)))) (t := (1, (false, (L.length : Int)))) (l := L) (p := fun r => !(bif decide (r.1 ≤ x) then decide (x < r.2) else false)) (fun i hi => by
    simp only [cta_step, Tr.val, lt_t hi, nn_t, el_r hi, wi1 hi (show (L.length : Int) ≤ 9223372036854775806 by omega), Bool.and_self, Bool.cond_self, cond_true]
    cases (bif decide (L[i].1 ≤ x) then decide (x < L[i].2) else false) <;> rfl) (by simp only [cta_step, Tr.val, Int.lt_irrefl, decide_false, cond_false])
  refine ⟨h1, ?_⟩
  rw [memB_of _ rfl] at h2
  rcases h2 with ⟨h, h3⟩ | ⟨h, j, _, _, _, h4⟩
  · exact .inl ⟨by simpa using h, h3⟩
  · exact .inr ⟨by simpa using h, j, h4⟩
theorem row_run {R : Rg} {y : Int} (hn : R.length ≤ 100000) : row_cond (y, R) ([], 0) = true ∧ (((∀ r ∈ R, r.1 ≠ y) ∧ row_g (y, R) ([], 0) = (1, ([], (R.length : Int)))) ∨ (∃ j, ∃ hj : j < R.length, R[j].1 = y ∧ row_g (y, R) ([], 0) = (0, (R[j].2, (j : Int))))) := by
  obtain ⟨h1, h2⟩ := run_all (step := row_step (y, R)) (St := fun i => ([], (i : Int))) (Lv := fun i => (0, (Prod.snd (el_ilii R (i : Int)), (i : Int)))) (t := (1, ([], (R.length : Int)))) (l := R) (p := fun r => !(r.1 == y)) (fun i hi => by
    simp only [row_step, Tr.val, lt_t hi, nn_t, el_g hi, wi1 hi (show (R.length : Int) ≤ 9223372036854775806 by omega), Bool.and_self, Bool.cond_self, cond_true]
    cases (R[i].1 == y) <;> rfl) (by simp only [row_step, Tr.val, Int.lt_irrefl, decide_false, cond_false])
  refine ⟨h1, ?_⟩
  rcases h2 with ⟨h, h3⟩ | ⟨h, j, hj, h5, _, h4⟩
  · refine .inl ⟨fun r hr e => ?_, h3⟩
    have := List.all_eq_true.1 h r hr
    rw [e, beq_self_eq_true] at this; cases this
  · refine .inr ⟨j, hj, ?_, (show row_g (y, R) ([], 0) = (0, (Prod.snd (el_ilii R (j : Int)), (j : Int))) from h4).trans (by rw [el_g hj])⟩
    have : (R[j].1 == y) = true := by simpa using h5
    exact beq_iff_eq.1 this
set_option maxRecDepth 100000 in
theorem innc_tree (L : (Ty.list (.prod (.int .i64) (.int .i64))).den) (x : Int) : evalF Try.prog moF_S58 (opens []) moH_L53 9 55 [.one (.d false false (.prod (.int .i64) (.int .i64)) L), .one (.v false (.int .i64 x))] = .br (((inn_cond (L, x) (false, (0 : Int))) && (bif Nat.beq (Prod.fst (inn_g (L, x) (false, (0 : Int)))) (0 : Nat) then true else (Nat.beq (Prod.fst (inn_g (L, x) (false, (0 : Int)))) (1 : Nat))))) (.ret (.one (.v false (.bool (bif Nat.beq (Prod.fst (inn_g (L, x) (false, (0 : Int)))) (0 : Nat) then Prod.fst (Prod.snd (inn_g (L, x) (false, (0 : Int)))) else false))))) (.bad 116) := by kernel_rfl
theorem innc_val (L : (Ty.list (.prod (.int .i64) (.int .i64))).den) (x : Int) (hc : (decide (L.length ≤ 100000)) = true) : (.br (((inn_cond (L, x) (false, (0 : Int))) && (bif Nat.beq (Prod.fst (inn_g (L, x) (false, (0 : Int)))) (0 : Nat) then true else (Nat.beq (Prod.fst (inn_g (L, x) (false, (0 : Int)))) (1 : Nat))))) (.ret (.one (.v false (.bool (bif Nat.beq (Prod.fst (inn_g (L, x) (false, (0 : Int)))) (0 : Nat) then Prod.fst (Prod.snd (inn_g (L, x) (false, (0 : Int)))) else false))))) (.bad 116) : Tr AV).val = some (.one (.v false (.bool (memB L x)))) := by
  have hn := of_decide_eq_true hc
  obtain ⟨v1, v2⟩ := inn_run (x := x) hn
  show cond _ _ _ = _
  rcases v2 with ⟨h, g⟩ | ⟨h, j, g⟩
  · simp [hn, v1, g, h, Nat.beq, Tr.val]
  · simp [hn, v1, g, h, Nat.beq, Tr.val]
noncomputable def innc_g : List AV → Option (Tr AV)
  | [.one (.d _ _ (.prod (.int .i64) (.int .i64)) L), .one (.v _ (.int .i64 x))] => some (.br (decide (L.length ≤ 100000)) (.ret (.one (.v false (.bool (memB L x))))) (.bad 900))
  | _ => none
set_option maxHeartbeats 4000000 in
theorem innc_ok : FunOK Try.prog 55 innc_g := by
  refine fun_ok (by kernel_rfl) (moF_S58_ok) (moH_L53_ok) 9 (On := (opens [])) (fun args t h => ?_)
  unfold innc_g at h
  split at h
  · rename_i _ _ L _ x
    simp only [Option.some.injEq] at h
    subst h
    refine ⟨[.one (.d false false (.prod (.int .i64) (.int .i64)) L), .one (.v false (.int .i64 x))], rfl, fun fr w us h => h, fun r hr => ?_⟩
    obtain ⟨hc, hr⟩ := br_bad hr
    simp only [Tr.val, Option.some.injEq] at hr
    subst hr
    rw [innc_tree]
    exact innc_val L x hc
  · cases h
noncomputable def moH_S54 : Sums := addS 55 innc_g moF_S58
theorem moH_S54_ok : SumOK Try.prog moH_S54 := addS_ok (innc_ok) (moF_S58_ok)
set_option maxRecDepth 100000 in
theorem ctac_tree (L : (Ty.list (.prod (.int .i64) (.int .i64))).den) (x : Int) : evalF Try.prog moH_S54 (opens []) moH_L53 9 60 [.one (.d false false (.prod (.int .i64) (.int .i64)) L), .one (.v false (.int .i64 x))] = .br (((decide ((↑(List.length L) : Int) ≤ (9223372036854775807 : Int))) && (bif !valB L then true else ((cta_cond (x, L, (↑(List.length L) : Int)) (false, (0 : Int))) && (bif Nat.beq (Prod.fst (cta_g (x, L, (↑(List.length L) : Int)) (false, (0 : Int)))) (0 : Nat) then true else (Nat.beq (Prod.fst (cta_g (x, L, (↑(List.length L) : Int)) (false, (0 : Int)))) (1 : Nat))))))) (.ret (.one (.v false (.bool (bif !valB L then false else bif Nat.beq (Prod.fst (cta_g (x, L, (↑(List.length L) : Int)) (false, (0 : Int)))) (0 : Nat) then Prod.fst (Prod.snd (cta_g (x, L, (↑(List.length L) : Int)) (false, (0 : Int)))) else false))))) (.bad 116) := by kernel_rfl
theorem ctac_val (L : (Ty.list (.prod (.int .i64) (.int .i64))).den) (x : Int) (hc : (decide (L.length ≤ 100000)) = true) : (.br (((decide ((↑(List.length L) : Int) ≤ (9223372036854775807 : Int))) && (bif !valB L then true else ((cta_cond (x, L, (↑(List.length L) : Int)) (false, (0 : Int))) && (bif Nat.beq (Prod.fst (cta_g (x, L, (↑(List.length L) : Int)) (false, (0 : Int)))) (0 : Nat) then true else (Nat.beq (Prod.fst (cta_g (x, L, (↑(List.length L) : Int)) (false, (0 : Int)))) (1 : Nat))))))) (.ret (.one (.v false (.bool (bif !valB L then false else bif Nat.beq (Prod.fst (cta_g (x, L, (↑(List.length L) : Int)) (false, (0 : Int)))) (0 : Nat) then Prod.fst (Prod.snd (cta_g (x, L, (↑(List.length L) : Int)) (false, (0 : Int)))) else false))))) (.bad 116) : Tr AV).val = some (.one (.v false (.bool (valB L && memB L x)))) := by
  have hn := of_decide_eq_true hc
  have h9 : decide ((L.length : Int) ≤ 9223372036854775807) = true := decide_eq_true (by omega)
  obtain ⟨v1, v2⟩ := cta_run (x := x) hn
  show cond _ _ _ = _
  cases hv : valB L
  · simp [h9, Tr.val]
  · rcases v2 with ⟨h, g⟩ | ⟨h, j, g⟩
    · simp [h9, v1, g, h, Nat.beq, Tr.val]
    · simp [h9, v1, g, h, Nat.beq, Tr.val]
noncomputable def ctac_g : List AV → Option (Tr AV)
  | [.one (.d _ _ (.prod (.int .i64) (.int .i64)) L), .one (.v _ (.int .i64 x))] => some (.br (decide (L.length ≤ 100000)) (.ret (.one (.v false (.bool (valB L && memB L x))))) (.bad 900))
  | _ => none
set_option maxHeartbeats 4000000 in
theorem ctac_ok : FunOK Try.prog 60 ctac_g := by
  refine fun_ok (by kernel_rfl) (moH_S54_ok) (moH_L53_ok) 9 (On := (opens [])) (fun args t h => ?_)
  unfold ctac_g at h
  split at h
  · rename_i _ _ L _ x
    simp only [Option.some.injEq] at h
    subst h
    refine ⟨[.one (.d false false (.prod (.int .i64) (.int .i64)) L), .one (.v false (.int .i64 x))], rfl, fun fr w us h => h, fun r hr => ?_⟩
    obtain ⟨hc, hr⟩ := br_bad hr
    simp only [Tr.val, Option.some.injEq] at hr
    subst hr
    rw [ctac_tree]
    exact ctac_val L x hc
  · cases h
noncomputable def moH_S55 : Sums := addS 60 ctac_g moH_S54
theorem moH_S55_ok : SumOK Try.prog moH_S55 := addS_ok (ctac_ok) (moH_S54_ok)
set_option maxRecDepth 100000 in
theorem cmp_tree (a : Int) (L : (Ty.list (.prod (.int .i64) (.int .i64))).den) (y : Int) : evalF Try.prog moH_S55 (opens []) moH_L53 9 58 [.ag [.v false (.int .i64 a), .d false false (.prod (.int .i64) (.int .i64)) L], .one (.v false (.int .i64 y))] = .ret (.one (.v false (.int .i64 (bif a != a then bif y != y then (0 : Int) else (-1 : Int) else bif y != y then (1 : Int) else bif decide (a < y) then (-1 : Int) else bif decide (a > y) then (1 : Int) else (0 : Int))))) := by kernel_rfl
set_option maxHeartbeats 4000000 in
theorem cmp_val (a : Int) (L : (Ty.list (.prod (.int .i64) (.int .i64))).den) (y : Int) : (.ret (.one (.v false (.int .i64 (bif a != a then bif y != y then (0 : Int) else (-1 : Int) else bif y != y then (1 : Int) else bif decide (a < y) then (-1 : Int) else bif decide (a > y) then (1 : Int) else (0 : Int))))) : Tr AV).val = some (.one (.v false (.int .i64 (cmpI a y)))) := by
  simp only [bne_self_eq_false, cond_false, Tr.val]
  rfl
noncomputable def cmp_g : List AV → Option (Tr AV)
  | [.ag [.v _ (.int .i64 a), .d _ _ (.prod (.int .i64) (.int .i64)) L], .one (.v _ (.int .i64 y))] => some (.ret (.one (.v false (.int .i64 (cmpI a y)))))
  | _ => none
set_option maxHeartbeats 4000000 in
theorem cmp_ok : FunOK Try.prog 58 cmp_g := by
  refine fun_ok (by kernel_rfl) (moH_S55_ok) (moH_L53_ok) 9 (On := (opens [])) (fun args t h => ?_)
  unfold cmp_g at h
  split at h
  · rename_i _ a _ _ L _ y
    simp only [Option.some.injEq] at h
    subst h
    refine ⟨[.ag [.v false (.int .i64 a), .d false false (.prod (.int .i64) (.int .i64)) L], .one (.v false (.int .i64 y))], rfl, fun fr w us h => h, fun r hr => ?_⟩
    simp only [Tr.val, Option.some.injEq] at hr
    subst hr
    rw [cmp_tree]
    exact cmp_val a L y
  · cases h
noncomputable def moH_S56 : Sums := addS 58 cmp_g moH_S55
theorem moH_S56_ok : SumOK Try.prog moH_S56 := addS_ok (cmp_ok) (moH_S55_ok)
abbrev bsf_U : Type := (Ty.list (.prod (.int .i64) (.list (.prod (.int .i64) (.int .i64))))).den × Int × Int × Bool × Int
abbrev bsf_V : Type := Int × Int
noncomputable def bsf_St (u : bsf_U) (v : bsf_V) : Stt := ⟨[.one (.d false false (.prod (.int .i64) (.list (.prod (.int .i64) (.int .i64)))) u.1), .one (.v false (.int .i64 u.2.1)), .one (.fn 58 []), .one .junk, .one .junk, .one .junk, .one (.v false (.int .i64 u.2.2.1)), .one (.v false (.bool u.2.2.2.1)), .one (.v false (.int .i64 u.2.2.2.2)), .one (.v false (.int .i64 v.1)), .one (.v false (.int .i64 v.2)), .one .junk, .one .junk, .one .junk, .one .junk, .one .junk, .one .junk, .one .junk, .one .junk, .one .junk, .one .junk, .one .junk, .one .junk, .one .junk, .one .junk, .one .junk, .one .junk, .one .junk, .one .junk, .one .junk, .one .junk, .one .junk, .one .junk, .one .junk, .one .junk, .one .junk, .one .junk, .one .junk, .one .junk, .one .junk, .one .junk, .one .junk, .one .junk, .one .junk, .one .junk, .one .junk, .one .junk, .one .junk, .one .junk], [], 1008⟩
noncomputable def bsf_step (u : bsf_U) (v : bsf_V) : Tr (bsf_V ⊕ (Nat × bsf_V)) :=
  match u, v with
  | (q0, q1, _, _, _), (q5, q6) => .br (decide (q5 < q6)) (.br (decide ((0 : Int) ≤ IntKind.wrap .i64 (Int.fdiv (IntKind.wrap IntKind.u64 (IntKind.wrap .i64 (q5 + q6))) ((2 : Int) ^ min (Int.toNat (1 : Int)) (IntKind.bits IntKind.u64)))) && decide (IntKind.wrap .i64 (Int.fdiv (IntKind.wrap IntKind.u64 (IntKind.wrap .i64 (q5 + q6))) ((2 : Int) ^ min (Int.toNat (1 : Int)) (IntKind.bits IntKind.u64))) < (↑(List.length q0) : Int))) (.br (decide (cmpI (Prod.fst (el_ilii q0 (IntKind.wrap .i64 (Int.fdiv (IntKind.wrap IntKind.u64 (IntKind.wrap .i64 (q5 + q6))) ((2 : Int) ^ min (Int.toNat (1 : Int)) (IntKind.bits IntKind.u64)))))) q1 < (0 : Int))) (.ret (.inl (IntKind.wrap .i64 (IntKind.wrap .i64 (Int.fdiv (IntKind.wrap IntKind.u64 (IntKind.wrap .i64 (q5 + q6))) ((2 : Int) ^ min (Int.toNat (1 : Int)) (IntKind.bits IntKind.u64))) + (1 : Int)), q6))) (.ret (.inl (q5, IntKind.wrap .i64 (Int.fdiv (IntKind.wrap IntKind.u64 (IntKind.wrap .i64 (q5 + q6))) ((2 : Int) ^ min (Int.toNat (1 : Int)) (IntKind.bits IntKind.u64))))))) (.bad 29)) (.ret (.inr (0, (q5, q6))))
set_option maxRecDepth 100000 in
set_option maxHeartbeats 4000000 in
theorem bsf_step_eq : ∀ (u : bsf_U) (v : bsf_V), (evalC Try.prog (evalB Try.prog moH_S56 (opens []) moH_L53 7).1 (evalB Try.prog moH_S56 (opens []) moH_L53 7).2 (opens []) (moH_L53 57) 100000 (0 :: [0, 0, 1, 1, 1]) (loopOf (bodyOf Try.prog 57) [1, 1, 1, 0, 0]) (bsf_St u v) []).bind (finF [3, 4, 5, 11, 12, 13, 14, 15, 16, 17, 18, 19, 20, 21, 22, 23, 24, 25, 26, 27, 28, 29, 30, 31, 32, 33, 34, 35, 36, 37, 38, 39, 40, 41, 42, 43, 44, 45, 46, 47, 48] [] [] [] 1008) = (bsf_step u v).bind (outA (bsf_St u) [.exit 0]) := by
  rintro ⟨q0, q1, q2, q3, q4⟩ ⟨q5, q6⟩
  kernel_rfl
noncomputable def bsf_rd (b : Bool) (o0 : Option AV) (o1 : Option AV) (o2 : Option AV) (o6 : Option AV) (o7 : Option AV) (o8 : Option AV) (o9 : Option AV) (o10 : Option AV) (own : Own) : Option (bsf_U × bsf_V) := zrT b <| zrO o0 fun za1 => zrA1 za1 fun zc2 => zrD (.prod (.int .i64) (.list (.prod (.int .i64) (.int .i64)))) zc2 fun q0 => zrO o1 fun za3 => zrA1 za3 fun zc4 => zrI .i64 zc4 fun q1 => zrO o2 fun za5 => zrA1 za5 fun zc6 => zrF 58 [] zc6 <| zrO o6 fun za7 => zrA1 za7 fun zc8 => zrI .i64 zc8 fun q2 => zrO o7 fun za9 => zrA1 za9 fun zc10 => zrB zc10 fun q3 => zrO o8 fun za11 => zrA1 za11 fun zc12 => zrI .i64 zc12 fun q4 => zrO o9 fun za13 => zrA1 za13 fun zc14 => zrI .i64 zc14 fun q5 => zrO o10 fun za15 => zrA1 za15 fun zc16 => zrI .i64 zc16 fun q6 => zrN own <| some ((q0, q1, q2, q3, q4), (q5, q6))
noncomputable def bsf_can (st : Stt) : Stt := canA [3, 4, 5, 11, 12, 13, 14, 15, 16, 17, 18, 19, 20, 21, 22, 23, 24, 25, 26, 27, 28, 29, 30, 31, 32, 33, 34, 35, 36, 37, 38, 39, 40, 41, 42, 43, 44, 45, 46, 47, 48] [] [] [] 1008 st
noncomputable def bsf_cok (st : Stt) : Bool := canAok [3, 4, 5, 11, 12, 13, 14, 15, 16, 17, 18, 19, 20, 21, 22, 23, 24, 25, 26, 27, 28, 29, 30, 31, 32, 33, 34, 35, 36, 37, 38, 39, 40, 41, 42, 43, 44, 45, 46, 47, 48] [] [] [] 1008 st
noncomputable def bsf_read (st : Stt) : Option (bsf_U × bsf_V) := bsf_rd (bsf_cok st && (staysA [] [] st.own && juAll [3, 4, 5, 11, 12, 13, 14, 15, 16, 17, 18, 19, 20, 21, 22, 23, 24, 25, 26, 27, 28, 29, 30, 31, 32, 33, 34, 35, 36, 37, 38, 39, 40, 41, 42, 43, 44, 45, 46, 47, 48] (bsf_can st).tm 49)) (bsf_can st).tm[0]? (bsf_can st).tm[1]? (bsf_can st).tm[2]? (bsf_can st).tm[6]? (bsf_can st).tm[7]? (bsf_can st).tm[8]? (bsf_can st).tm[9]? (bsf_can st).tm[10]? (bsf_can st).own
set_option maxRecDepth 100000 in
set_option maxHeartbeats 4000000 in
theorem bsf_rd_ok {b : Bool} {tm : List AV} {own : Own} {u : bsf_U} {v : bsf_V} (hj : b = true → juAll [3, 4, 5, 11, 12, 13, 14, 15, 16, 17, 18, 19, 20, 21, 22, 23, 24, 25, 26, 27, 28, 29, 30, 31, 32, 33, 34, 35, 36, 37, 38, 39, 40, 41, 42, 43, 44, 45, 46, 47, 48] tm 49 = true) (h : bsf_rd b tm[0]? tm[1]? tm[2]? tm[6]? tm[7]? tm[8]? tm[9]? tm[10]? own = some (u, v)) : b = true ∧ tm = (bsf_St u v).tm ∧ own = (bsf_St u v).own := by
  unfold bsf_rd at h
  obtain ⟨rfl, h0⟩ := zrT_some h
  obtain ⟨za1, e0, h1⟩ := zrO_some h0
  obtain ⟨zc2, rfl, h2⟩ := zrA1_some h1
  obtain ⟨q0, rfl, h3⟩ := zrD_some h2
  obtain ⟨za3, e1, h4⟩ := zrO_some h3
  obtain ⟨zc4, rfl, h5⟩ := zrA1_some h4
  obtain ⟨q1, rfl, h6⟩ := zrI_some h5
  obtain ⟨za5, e2, h7⟩ := zrO_some h6
  obtain ⟨zc6, rfl, h8⟩ := zrA1_some h7
  obtain ⟨rfl, h9⟩ := zrF_some h8
  obtain ⟨za7, e6, h10⟩ := zrO_some h9
  obtain ⟨zc8, rfl, h11⟩ := zrA1_some h10
  obtain ⟨q2, rfl, h12⟩ := zrI_some h11
  obtain ⟨za9, e7, h13⟩ := zrO_some h12
  obtain ⟨zc10, rfl, h14⟩ := zrA1_some h13
  obtain ⟨q3, rfl, h15⟩ := zrB_some h14
  obtain ⟨za11, e8, h16⟩ := zrO_some h15
  obtain ⟨zc12, rfl, h17⟩ := zrA1_some h16
  obtain ⟨q4, rfl, h18⟩ := zrI_some h17
  obtain ⟨za13, e9, h19⟩ := zrO_some h18
  obtain ⟨zc14, rfl, h20⟩ := zrA1_some h19
  obtain ⟨q5, rfl, h21⟩ := zrI_some h20
  obtain ⟨za15, e10, h22⟩ := zrO_some h21
  obtain ⟨zc16, rfl, h23⟩ := zrA1_some h22
  obtain ⟨q6, rfl, h24⟩ := zrI_some h23
  obtain ⟨rfl, h25⟩ := zrN_some h24
  have h := Option.some.inj h25
  have hu := congrArg Prod.fst h
  have hv := congrArg Prod.snd h
  dsimp only at hu hv
  subst hu
  subst hv
  exact ⟨rfl, (tm_fill (hj rfl) (Lv := [(0, .one (.d false false (.prod (.int .i64) (.list (.prod (.int .i64) (.int .i64)))) q0)), (1, .one (.v false (.int .i64 q1))), (2, .one (.fn 58 [])), (6, .one (.v false (.int .i64 q2))), (7, .one (.v false (.bool q3))), (8, .one (.v false (.int .i64 q4))), (9, .one (.v false (.int .i64 q5))), (10, .one (.v false (.int .i64 q6)))]) (by kernel_rfl) ⟨e0, e1, e2, e6, e7, e8, e9, e10, trivial⟩).trans (by kernel_rfl), rfl⟩
theorem bsf_read_ok (st : Stt) (u : bsf_U) (v : bsf_V) (h : bsf_read st = some (u, v)) : bsf_cok st = true ∧ staysA [] [] st.own = true ∧ bsf_can st = bsf_St u v := by
  obtain ⟨h1, h2, h3⟩ := bsf_rd_ok (fun hb => by rw [Bool.and_eq_true, Bool.and_eq_true] at hb; exact hb.2.2) h
  rw [Bool.and_eq_true, Bool.and_eq_true] at h1
  refine ⟨h1.1, h1.2.1, ?_⟩
  have e : bsf_can st = ⟨(bsf_can st).tm, (bsf_can st).own, 1008⟩ := by kernel_rfl
  rw [e, h2, h3]
  rfl
noncomputable def bsf_cond (u : bsf_U) (v : bsf_V) : Bool := runC (bsf_step u) v
noncomputable def bsf_g (u : bsf_U) (v : bsf_V) : Nat × bsf_V := runG (bsf_step u) v
theorem bsf_hg : ∀ (u : bsf_U) (v : bsf_V), bsf_cond u v = true → loopN (bsf_step u) ((fun u v => runF (bsf_step u) v) u v) v = some (bsf_g u v) := by
  exact fun u v h => run_hg h
noncomputable def bsf_m (st : Stt) : Option (Tr (Ex × Stt)) := sumM bsf_read bsf_cond bsf_St bsf_g [(0, .exit 0)] st
noncomputable def moH_L57 : FuncId → Loops := addL 57 [0, 0, 1, 1, 1] bsf_m moH_L53
set_option maxRecDepth 100000 in
set_option maxHeartbeats 4000000 in
theorem moH_L57_ok : LoopsOK Try.prog moH_L57 :=
  loop_sumF (body := (bodyOf Try.prog 57)) (c := (loopOf (bodyOf Try.prog 57) [1, 1, 1, 0, 0])) (kinds := [.exit 0]) (allow := [(0, .exit 0)]) (St := bsf_St) (step := bsf_step) (W := [3, 4, 5, 11, 12, 13, 14, 15, 16, 17, 18, 19, 20, 21, 22, 23, 24, 25, 26, 27, 28, 29, 30, 31, 32, 33, 34, 35, 36, 37, 38, 39, 40, 41, 42, 43, 44, 45, 46, 47, 48]) (As := []) (ks := []) (dd := []) (nx := 1008) (n := 100000) (g := bsf_g) (cond := bsf_cond) (fuel := (fun u v => runF (bsf_step u) v)) (read := bsf_read) (by kernel_rfl) (moH_S56_ok) (moH_L53_ok) 7 ⟨Try.f57, by kernel_rfl, by kernel_rfl⟩ (by kernel_rfl) (by kernel_rfl) (by kernel_rfl) bsf_step_eq bsf_hg bsf_read_ok
theorem cmpI_lt (a y : Int) : decide (cmpI a y < 0) = decide (a < y) := by
  unfold cmpI
  by_cases h : a < y
  · rw [decide_eq_true h]; rfl
  · rw [decide_eq_false h]
    cases decide (a > y) <;> rfl
theorem cmpI_eq (a y : Int) : (cmpI a y == 0) = decide (a = y) := by
  unfold cmpI
  by_cases h : a < y
  · rw [decide_eq_true h, decide_eq_false (show ¬ a = y by omega)]; rfl
  · by_cases g : a > y
    · rw [decide_eq_false h, decide_eq_true g, decide_eq_false (show ¬ a = y by omega)]; rfl
    · rw [decide_eq_false h, decide_eq_false g, decide_eq_true (show a = y by omega)]; rfl
theorem bsf_run {R : Rg} {y a c : Int} {b : Bool} (h : valG R) (hn : R.length ≤ 100000) : bsf_cond (R, y, a, b, c) (0, (R.length : Int)) = true ∧ ∃ i : Nat, i ≤ R.length ∧ (∀ k (hk : k < R.length), k < i → R[k].1 < y) ∧ (∀ k (hk : k < R.length), i ≤ k → y ≤ R[k].1) ∧ bsf_g (R, y, a, b, c) (0, (R.length : Int)) = (0, ((i : Int), (i : Int))) := by
  refine run_val (step := bsf_step (R, y, a, b, c)) (Inv := fun s => ∃ i j : Nat, s = ((i : Int), (j : Int)) ∧ i ≤ j ∧ j ≤ R.length ∧ (∀ k (hk : k < R.length), k < i → R[k].1 < y) ∧ (∀ k (hk : k < R.length), j ≤ k → y ≤ R[k].1)) (μ := fun s => s.2.toNat - s.1.toNat) (Q := fun t => ∃ i : Nat, i ≤ R.length ∧ (∀ k (hk : k < R.length), k < i → R[k].1 < y) ∧ (∀ k (hk : k < R.length), i ≤ k → y ≤ R[k].1) ∧ t = (0, ((i : Int), (i : Int)))) ?_ _ _ (Nat.lt_succ_self _) ⟨0, R.length, rfl, Nat.zero_le _, Nat.le_refl _, fun k _ hk => absurd hk (Nat.not_lt_zero _), fun k hk h2 => absurd hk (by omega)⟩
  rintro s ⟨i, j, rfl, hij, hj, lo, hi⟩
  by_cases g : i < j
  · have hw := half_w (i := i) (j := j) (by omega)
    have hm : (i + j) / 2 < R.length := by omega
    have w1 : IntKind.wrap .i64 ((((i + j) / 2 : Nat) : Int) + (1 : Int)) = (((i + j) / 2 + 1 : Nat) : Int) := by rw [wid (by omega) (by omega)]; omega
    by_cases gy : R[(i + j) / 2].1 < y
    · refine ⟨.inl ((((i + j) / 2 + 1 : Nat) : Int), (j : Int)), ?_, ⟨_, _, rfl, by omega, hj, fun k hk h2 => ?_, hi⟩, by show (j : Int).toNat - (((i + j) / 2 + 1 : Nat) : Int).toNat < (j : Int).toNat - (i : Int).toNat; omega⟩
      · simp only [bsf_step, Tr.val, lt_t g, hw, nn_t, lt_t hm, el_g hm, cmpI_lt, decide_eq_true gy, w1, Bool.and_self, cond_true]
      · by_cases e : k = (i + j) / 2
        · subst e; exact gy
        · have := ng_sort h k ((i + j) / 2) hk hm (by omega)
          omega
    · refine ⟨.inl ((i : Int), (((i + j) / 2 : Nat) : Int)), ?_, ⟨_, _, rfl, by omega, by omega, lo, fun k hk h2 => ?_⟩, by show (((i + j) / 2 : Nat) : Int).toNat - (i : Int).toNat < (j : Int).toNat - (i : Int).toNat; omega⟩
      · simp only [bsf_step, Tr.val, lt_t g, hw, nn_t, lt_t hm, el_g hm, cmpI_lt, decide_eq_false gy, Bool.and_self, cond_true, cond_false]
      · by_cases e : k = (i + j) / 2
        · subst e; omega
        · have := ng_sort h ((i + j) / 2) k hm hk (by omega)
          omega
  · have d : decide ((i : Int) < (j : Int)) = false := decide_eq_false (by omega)
    have : i = j := by omega
    subst this
    exact ⟨.inr (0, ((i : Int), (i : Int))), by simp only [bsf_step, Tr.val, d, cond_false], i, hj, lo, hi, rfl⟩
set_option maxRecDepth 100000 in
theorem r18c_tree (R : (Ty.list (.prod (.int .i64) (.list (.prod (.int .i64) (.int .i64))))).den) (x : Int) (y : Int) : evalF Try.prog moH_S56 (opens []) moH_L57 9 28 [.ag [.d false false (.prod (.int .i64) (.list (.prod (.int .i64) (.int .i64)))) R], .ag [.v false (.int .i64 x), .v false (.int .i64 y)]] = .br (((szG R) && (bif valGB R then ((((row_cond (y, R) ([], (0 : Int))) && (bif Nat.beq (Prod.fst (row_g (y, R) ([], (0 : Int)))) (0 : Nat) then true else (Nat.beq (Prod.fst (row_g (y, R) ([], (0 : Int)))) (1 : Nat))))) && (decide (List.length (bif Nat.beq (Prod.fst (row_g (y, R) ([], (0 : Int)))) (0 : Nat) then Prod.fst (Prod.snd (row_g (y, R) ([], (0 : Int)))) else []) ≤ (100000 : Nat)))) else true))) (.ret (.one (.v false (.bool (bif valGB R then memB (bif Nat.beq (Prod.fst (row_g (y, R) ([], (0 : Int)))) (0 : Nat) then Prod.fst (Prod.snd (row_g (y, R) ([], (0 : Int)))) else []) x else false))))) (.bad 116) := by kernel_rfl
theorem r18c_val (R : (Ty.list (.prod (.int .i64) (.list (.prod (.int .i64) (.int .i64))))).den) (x : Int) (y : Int) (hc : (szG R) = true) : (.br (((szG R) && (bif valGB R then ((((row_cond (y, R) ([], (0 : Int))) && (bif Nat.beq (Prod.fst (row_g (y, R) ([], (0 : Int)))) (0 : Nat) then true else (Nat.beq (Prod.fst (row_g (y, R) ([], (0 : Int)))) (1 : Nat))))) && (decide (List.length (bif Nat.beq (Prod.fst (row_g (y, R) ([], (0 : Int)))) (0 : Nat) then Prod.fst (Prod.snd (row_g (y, R) ([], (0 : Int)))) else []) ≤ (100000 : Nat)))) else true))) (.ret (.one (.v false (.bool (bif valGB R then memB (bif Nat.beq (Prod.fst (row_g (y, R) ([], (0 : Int)))) (0 : Nat) then Prod.fst (Prod.snd (row_g (y, R) ([], (0 : Int)))) else []) x else false))))) (.bad 116) : Tr AV).val = some (.one (.v false (.bool (valGB R && memG R x y)))) := by
  obtain ⟨K, rfl⟩ : ∃ K : Rg, K = R := ⟨R, rfl⟩
  have hs : szG K = true := hc
  show cond _ _ _ = _
  cases hv : valGB K
  · simp only [hs, Bool.and_self, cond_true, cond_false, Bool.false_and, Tr.val]
  · have h := valGB_iff.1 hv
    have hl := ng_len h (by omega)
    obtain ⟨v1, v2⟩ := row_run (R := K) (y := y) (by omega)
    rcases v2 with ⟨hn, g⟩ | ⟨j, hj, e, g⟩
    · have z : decide (([] : Rl).length ≤ 100000) = true := rfl
      rw [memG_no hn]
      simp only [hs, v1, g, z, Nat.beq, Bool.and_self, Bool.and_false, cond_true, cond_false, Tr.val]
      rfl
    · subst e
      have hr := row_len (Ng.rows h _ (List.getElem_mem hj))
      have z : decide (K[j].2.length ≤ 100000) = true := decide_eq_true (by omega)
      rw [memG_at h _ (List.getElem_mem hj)]
      simp only [hs, v1, g, z, Nat.beq, Bool.and_self, Bool.true_and, cond_true, cond_false, Tr.val]
noncomputable def r18c_g : List AV → Option (Tr AV)
  | [.ag [.d _ _ (.prod (.int .i64) (.list (.prod (.int .i64) (.int .i64)))) R], .ag [.v _ (.int .i64 x), .v _ (.int .i64 y)]] => some (.br (szG R) (.ret (.one (.v false (.bool (valGB R && memG R x y))))) (.bad 900))
  | _ => none
set_option maxHeartbeats 4000000 in
theorem r18c_ok : FunOK Try.prog 28 r18c_g := by
  refine fun_ok (by kernel_rfl) (moH_S56_ok) (moH_L57_ok) 9 (On := (opens [])) (fun args t h => ?_)
  unfold r18c_g at h
  split at h
  · rename_i _ _ R _ x _ y
    simp only [Option.some.injEq] at h
    subst h
    refine ⟨[.ag [.d false false (.prod (.int .i64) (.list (.prod (.int .i64) (.int .i64)))) R], .ag [.v false (.int .i64 x), .v false (.int .i64 y)]], rfl, fun fr w us h => h, fun r hr => ?_⟩
    obtain ⟨hc, hr⟩ := br_bad hr
    simp only [Tr.val, Option.some.injEq] at hr
    subst hr
    rw [r18c_tree]
    exact r18c_val R x y hc
  · cases h
noncomputable def moH_S58 : Sums := addS 28 r18c_g moH_S56
theorem moH_S58_ok : SumOK Try.prog moH_S58 := addS_ok (r18c_ok) (moH_S56_ok)
noncomputable def rgnc_t (R : (Ty.list (.prod (.int .i64) (.list (.prod (.int .i64) (.int .i64))))).den) (x : Int) (y : Int) : Tr AV := .br (((szG R) && (bif !valGB R then true else ((((bsf_cond (R, y, (0 : Int), false, (↑(List.length R) : Int)) ((0 : Int), (↑(List.length R) : Int))) && ((Nat.beq (Prod.fst (bsf_g (R, y, (0 : Int), false, (↑(List.length R) : Int)) ((0 : Int), (↑(List.length R) : Int)))) (0 : Nat)) && (bif decide (Prod.fst (Prod.snd (bsf_g (R, y, (0 : Int), false, (↑(List.length R) : Int)) ((0 : Int), (↑(List.length R) : Int)))) < (↑(List.length R) : Int)) then (decide ((0 : Int) ≤ Prod.fst (Prod.snd (bsf_g (R, y, (0 : Int), false, (↑(List.length R) : Int)) ((0 : Int), (↑(List.length R) : Int))))) && decide (Prod.fst (Prod.snd (bsf_g (R, y, (0 : Int), false, (↑(List.length R) : Int)) ((0 : Int), (↑(List.length R) : Int)))) < (↑(List.length R) : Int))) else true)))) && (bif bif decide (Prod.fst (Prod.snd (bsf_g (R, y, (0 : Int), false, (↑(List.length R) : Int)) ((0 : Int), (↑(List.length R) : Int)))) < (↑(List.length R) : Int)) then cmpI (Prod.fst (el_ilii R (Prod.fst (Prod.snd (bsf_g (R, y, (0 : Int), false, (↑(List.length R) : Int)) ((0 : Int), (↑(List.length R) : Int))))))) y == (0 : Int) else false then ((decide ((0 : Int) ≤ bif decide (Prod.fst (Prod.snd (bsf_g (R, y, (0 : Int), false, (↑(List.length R) : Int)) ((0 : Int), (↑(List.length R) : Int)))) < (↑(List.length R) : Int)) then Prod.fst (Prod.snd (bsf_g (R, y, (0 : Int), false, (↑(List.length R) : Int)) ((0 : Int), (↑(List.length R) : Int)))) else Prod.fst (Prod.snd (bsf_g (R, y, (0 : Int), false, (↑(List.length R) : Int)) ((0 : Int), (↑(List.length R) : Int))))) && decide ((bif decide (Prod.fst (Prod.snd (bsf_g (R, y, (0 : Int), false, (↑(List.length R) : Int)) ((0 : Int), (↑(List.length R) : Int)))) < (↑(List.length R) : Int)) then Prod.fst (Prod.snd (bsf_g (R, y, (0 : Int), false, (↑(List.length R) : Int)) ((0 : Int), (↑(List.length R) : Int)))) else Prod.fst (Prod.snd (bsf_g (R, y, (0 : Int), false, (↑(List.length R) : Int)) ((0 : Int), (↑(List.length R) : Int))))) < (↑(List.length R) : Int))) && (decide (List.length (Prod.snd (el_ilii R (bif decide (Prod.fst (Prod.snd (bsf_g (R, y, (0 : Int), false, (↑(List.length R) : Int)) ((0 : Int), (↑(List.length R) : Int)))) < (↑(List.length R) : Int)) then Prod.fst (Prod.snd (bsf_g (R, y, (0 : Int), false, (↑(List.length R) : Int)) ((0 : Int), (↑(List.length R) : Int)))) else Prod.fst (Prod.snd (bsf_g (R, y, (0 : Int), false, (↑(List.length R) : Int)) ((0 : Int), (↑(List.length R) : Int))))))) ≤ (100000 : Nat)))) else true))))) (.ret (.one (.v false (.bool (bif !valGB R then false else bif bif decide (Prod.fst (Prod.snd (bsf_g (R, y, (0 : Int), false, (↑(List.length R) : Int)) ((0 : Int), (↑(List.length R) : Int)))) < (↑(List.length R) : Int)) then cmpI (Prod.fst (el_ilii R (Prod.fst (Prod.snd (bsf_g (R, y, (0 : Int), false, (↑(List.length R) : Int)) ((0 : Int), (↑(List.length R) : Int))))))) y == (0 : Int) else false then valB (Prod.snd (el_ilii R (bif decide (Prod.fst (Prod.snd (bsf_g (R, y, (0 : Int), false, (↑(List.length R) : Int)) ((0 : Int), (↑(List.length R) : Int)))) < (↑(List.length R) : Int)) then Prod.fst (Prod.snd (bsf_g (R, y, (0 : Int), false, (↑(List.length R) : Int)) ((0 : Int), (↑(List.length R) : Int)))) else Prod.fst (Prod.snd (bsf_g (R, y, (0 : Int), false, (↑(List.length R) : Int)) ((0 : Int), (↑(List.length R) : Int))))))) && memB (Prod.snd (el_ilii R (bif decide (Prod.fst (Prod.snd (bsf_g (R, y, (0 : Int), false, (↑(List.length R) : Int)) ((0 : Int), (↑(List.length R) : Int)))) < (↑(List.length R) : Int)) then Prod.fst (Prod.snd (bsf_g (R, y, (0 : Int), false, (↑(List.length R) : Int)) ((0 : Int), (↑(List.length R) : Int)))) else Prod.fst (Prod.snd (bsf_g (R, y, (0 : Int), false, (↑(List.length R) : Int)) ((0 : Int), (↑(List.length R) : Int))))))) x else false))))) (.bad 116)
set_option maxRecDepth 100000 in
theorem rgnc_tree (R : (Ty.list (.prod (.int .i64) (.list (.prod (.int .i64) (.int .i64))))).den) (x : Int) (y : Int) : evalF Try.prog moH_S58 (opens []) moH_L57 9 29 [.ag [.d false false (.prod (.int .i64) (.list (.prod (.int .i64) (.int .i64)))) R], .ag [.v false (.int .i64 x), .v false (.int .i64 y)]] = rgnc_t R x y := by kernel_rfl
theorem rgnc_val (R : (Ty.list (.prod (.int .i64) (.list (.prod (.int .i64) (.int .i64))))).den) (x : Int) (y : Int) (hc : (szG R) = true) : (rgnc_t R x y).val = some (.one (.v false (.bool (valGB R && memG R x y)))) := by
  obtain ⟨K, rfl⟩ : ∃ K : Rg, K = R := ⟨R, rfl⟩
  have hs : szG K = true := hc
  unfold rgnc_t
  show cond _ _ _ = _
  cases hv : valGB K
  · simp only [hs, Bool.and_self, Bool.not_false, cond_true, cond_false, Bool.false_and, Tr.val]
  · have h := valGB_iff.1 hv
    have hl := ng_len h (by omega)
    have h9 : decide ((K.length : Int) ≤ 9223372036854775807) = true := decide_eq_true (by omega)
    obtain ⟨v1, i, hi, lo, up, g⟩ := bsf_run (R := K) (y := y) (a := 0) (b := false) (c := (K.length : Int)) h (by omega)
    by_cases q : i < K.length
    · by_cases e : K[i].1 = y
      · have hr := row_len (Ng.rows h _ (List.getElem_mem q))
        have z : decide (K[i].2.length ≤ 100000) = true := decide_eq_true (by omega)
        have vb : valB K[i].2 = true := valB_iff.2 (rowOk_val (Ng.rows h _ (List.getElem_mem q)))
        have me : memG K x y = memB K[i].2 x := by rw [← e]; exact memG_at h _ (List.getElem_mem q) x
        rw [me]
        simp only [hs, v1, g, h9, lt_t q, nn_t, el_g q, cmpI_eq, decide_eq_true e, z, vb, Nat.beq, Bool.not_true, Bool.and_self, Bool.true_and, cond_true, cond_false, Tr.val]
      · have me : memG K x y = false := memG_no fun r hr e2 => by
          obtain ⟨k, hk, rfl⟩ := List.getElem_of_mem hr
          rcases Nat.lt_trichotomy k i with c | c | c
          · have := lo k hk c; omega
          · subst c; exact e e2
          · have := ng_sort h i k q hk c
            have := up i q (Nat.le_refl _)
            omega
        rw [me]
        simp only [hs, v1, g, h9, lt_t q, nn_t, el_g q, cmpI_eq, decide_eq_false e, Nat.beq, Bool.not_true, Bool.and_self, Bool.and_false, Bool.true_and, cond_true, cond_false, Tr.val]
    · have d : decide ((i : Int) < (K.length : Int)) = false := decide_eq_false (by omega)
      have me : memG K x y = false := memG_no fun r hr e2 => by
        obtain ⟨k, hk, rfl⟩ := List.getElem_of_mem hr
        have := lo k hk (by omega); omega
      rw [me]
      simp only [hs, v1, g, h9, d, Nat.beq, Bool.not_true, Bool.and_self, Bool.and_false, Bool.true_and, cond_true, cond_false, Tr.val]
noncomputable def rgnc_g : List AV → Option (Tr AV)
  | [.ag [.d _ _ (.prod (.int .i64) (.list (.prod (.int .i64) (.int .i64)))) R], .ag [.v _ (.int .i64 x), .v _ (.int .i64 y)]] => some (.br (szG R) (.ret (.one (.v false (.bool (valGB R && memG R x y))))) (.bad 900))
  | _ => none
set_option maxHeartbeats 4000000 in
theorem rgnc_ok : FunOK Try.prog 29 rgnc_g := by
  refine fun_ok (by kernel_rfl) (moH_S58_ok) (moH_L57_ok) 9 (On := (opens [])) (fun args t h => ?_)
  unfold rgnc_g at h
  split at h
  · rename_i _ _ R _ x _ y
    simp only [Option.some.injEq] at h
    subst h
    refine ⟨[.ag [.d false false (.prod (.int .i64) (.list (.prod (.int .i64) (.int .i64)))) R], .ag [.v false (.int .i64 x), .v false (.int .i64 y)]], rfl, fun fr w us h => h, fun r hr => ?_⟩
    obtain ⟨hc, hr⟩ := br_bad hr
    simp only [Tr.val, Option.some.injEq] at hr
    subst hr
    rw [rgnc_tree]
    exact rgnc_val R x y hc
  · cases h
noncomputable def moH_S59 : Sums := addS 29 rgnc_g moH_S58
theorem moH_S59_ok : SumOK Try.prog moH_S59 := addS_ok (rgnc_ok) (moH_S58_ok)
end Go.Proofs.Ytdoodmapmhibhaa

namespace Go.Proofs.Ytdoodmapmhibhaa
open Go
noncomputable def moJ_S51 : Sums := addS 15 gTrue moH_S59
theorem moJ_S51_ok : SumOK Try.prog moJ_S51 := addS_ok (gTrue_ok (by kernel_rfl) (moW_S119_ok) (L0_ok _) aw15_tree) (moH_S59_ok)
abbrev hv_U : Type := Bool × (Ty.list (.prod (.int .i64) (.list (.prod (.int .i64) (.int .i64))))).den
abbrev hv_V : Type := Int × Int
noncomputable def hv_St (u : hv_U) (v : hv_V) : Stt := ⟨[.one .junk, .one (.p 0 0), .one (.v false (.bool u.1)), .one (.v false (.int .i64 v.1)), .one (.v false (.int .i64 v.2)), .one .junk, .one .junk, .one .junk, .one .junk, .one .junk, .one .junk, .one .junk, .one .junk, .one .junk, .one .junk, .one .junk, .one .junk, .one .junk, .one .junk, .one .junk, .one .junk, .one .junk, .one .junk, .one .junk, .one .junk, .one .junk, .one .junk, .one .junk, .one .junk, .one .junk, .one .junk, .one .junk, .one .junk, .one .junk, .one .junk, .one .junk, .one .junk, .one .junk], [(0, .cells [.d false false (.prod (.int .i64) (.list (.prod (.int .i64) (.int .i64)))) u.2])], 1004⟩
noncomputable def hv_step (u : hv_U) (v : hv_V) : Tr (hv_V ⊕ (Nat × hv_V)) :=
  match u, v with
  | (_, q3), (q1, q2) => .br (bif decide (q2 < (↑(List.length q3) : Int)) then decide (q2 < (300 : Int)) else false) (.br (decide ((0 : Int) ≤ q2) && decide (q2 < (↑(List.length q3) : Int))) (.ret (.inl (IntKind.wrap IntKind.i64 (q1 + (↑(List.length (Prod.snd (el_ilii q3 q2))) : Int)), IntKind.wrap IntKind.i64 (q2 + (1 : Int))))) (.bad 29)) (.ret (.inr (0, (q1, q2))))
set_option maxRecDepth 100000 in
set_option maxHeartbeats 4000000 in
theorem hv_step_eq : ∀ (u : hv_U) (v : hv_V), (evalC Try.prog (evalB Try.prog moJ_S51 (opens []) moH_L57 7).1 (evalB Try.prog moJ_S51 (opens []) moH_L57 7).2 (opens []) (moH_L57 14) 100000 (0 :: [0, 1, 0, 1, 1]) (loopOf (bodyOf Try.prog 14) [1, 1, 0, 1, 0]) (hv_St u v) []).bind (finF [0, 5, 6, 7, 8, 9, 10, 11, 12, 13, 14, 15, 16, 17, 18, 19, 20, 21, 22, 23, 24, 25, 26, 27, 28, 29, 30, 31, 32, 33, 34, 35, 36, 37] [] [0] [] 1004) = (hv_step u v).bind (outA (hv_St u) [.exit 0]) := by
  rintro ⟨q0, q3⟩ ⟨q1, q2⟩
  kernel_rfl
noncomputable def hv_rd (b : Bool) (o1 : Option AV) (o2 : Option AV) (o3 : Option AV) (o4 : Option AV) (own : Own) : Option (hv_U × hv_V) := zrT b <| zrO o1 fun za1 => zrA1 za1 fun zc2 => zrP 0 0 zc2 <| zrO o2 fun za3 => zrA1 za3 fun zc4 => zrB zc4 fun q0 => zrO o3 fun za5 => zrA1 za5 fun zc6 => zrI .i64 zc6 fun q1 => zrO o4 fun za7 => zrA1 za7 fun zc8 => zrI .i64 zc8 fun q2 => zrL own fun zq9 zw10 => zrKey 0 zq9 fun zk11 => zrC zk11 fun zl12 => zrL zl12 fun zc13 zr14 => zrD (.prod (.int .i64) (.list (.prod (.int .i64) (.int .i64)))) zc13 fun q3 => zrN zr14 <| zrN zw10 <| some ((q0, q3), (q1, q2))
noncomputable def hv_can (st : Stt) : Stt := canA [0, 5, 6, 7, 8, 9, 10, 11, 12, 13, 14, 15, 16, 17, 18, 19, 20, 21, 22, 23, 24, 25, 26, 27, 28, 29, 30, 31, 32, 33, 34, 35, 36, 37] [] [0] [] 1004 st
noncomputable def hv_cok (st : Stt) : Bool := canAok [0, 5, 6, 7, 8, 9, 10, 11, 12, 13, 14, 15, 16, 17, 18, 19, 20, 21, 22, 23, 24, 25, 26, 27, 28, 29, 30, 31, 32, 33, 34, 35, 36, 37] [] [0] [] 1004 st
noncomputable def hv_read (st : Stt) : Option (hv_U × hv_V) := hv_rd (hv_cok st && (staysA [] [0] st.own && juAll [0, 5, 6, 7, 8, 9, 10, 11, 12, 13, 14, 15, 16, 17, 18, 19, 20, 21, 22, 23, 24, 25, 26, 27, 28, 29, 30, 31, 32, 33, 34, 35, 36, 37] (hv_can st).tm 38)) (hv_can st).tm[1]? (hv_can st).tm[2]? (hv_can st).tm[3]? (hv_can st).tm[4]? (hv_can st).own
set_option maxRecDepth 100000 in
set_option maxHeartbeats 4000000 in
theorem hv_rd_ok {b : Bool} {tm : List AV} {own : Own} {u : hv_U} {v : hv_V} (hj : b = true → juAll [0, 5, 6, 7, 8, 9, 10, 11, 12, 13, 14, 15, 16, 17, 18, 19, 20, 21, 22, 23, 24, 25, 26, 27, 28, 29, 30, 31, 32, 33, 34, 35, 36, 37] tm 38 = true) (h : hv_rd b tm[1]? tm[2]? tm[3]? tm[4]? own = some (u, v)) : b = true ∧ tm = (hv_St u v).tm ∧ own = (hv_St u v).own := by
  unfold hv_rd at h
  obtain ⟨rfl, h0⟩ := zrT_some h
  obtain ⟨za1, e1, h1⟩ := zrO_some h0
  obtain ⟨zc2, rfl, h2⟩ := zrA1_some h1
  obtain ⟨rfl, h3⟩ := zrP_some h2
  obtain ⟨za3, e2, h4⟩ := zrO_some h3
  obtain ⟨zc4, rfl, h5⟩ := zrA1_some h4
  obtain ⟨q0, rfl, h6⟩ := zrB_some h5
  obtain ⟨za5, e3, h7⟩ := zrO_some h6
  obtain ⟨zc6, rfl, h8⟩ := zrA1_some h7
  obtain ⟨q1, rfl, h9⟩ := zrI_some h8
  obtain ⟨za7, e4, h10⟩ := zrO_some h9
  obtain ⟨zc8, rfl, h11⟩ := zrA1_some h10
  obtain ⟨q2, rfl, h12⟩ := zrI_some h11
  obtain ⟨zq9, zw10, rfl, h13⟩ := zrL_some h12
  obtain ⟨zk11, rfl, h14⟩ := zrKey_some h13
  obtain ⟨zl12, rfl, h15⟩ := zrC_some h14
  obtain ⟨zc13, zr14, rfl, h16⟩ := zrL_some h15
  obtain ⟨q3, rfl, h17⟩ := zrD_some h16
  obtain ⟨rfl, h18⟩ := zrN_some h17
  obtain ⟨rfl, h19⟩ := zrN_some h18
  have h := Option.some.inj h19
  have hu := congrArg Prod.fst h
  have hv := congrArg Prod.snd h
  dsimp only at hu hv
  subst hu
  subst hv
  exact ⟨rfl, (tm_fill (hj rfl) (Lv := [(1, .one (.p 0 0)), (2, .one (.v false (.bool q0))), (3, .one (.v false (.int .i64 q1))), (4, .one (.v false (.int .i64 q2)))]) (by kernel_rfl) ⟨e1, e2, e3, e4, trivial⟩).trans (by kernel_rfl), rfl⟩
theorem hv_read_ok (st : Stt) (u : hv_U) (v : hv_V) (h : hv_read st = some (u, v)) : hv_cok st = true ∧ staysA [] [0] st.own = true ∧ hv_can st = hv_St u v := by
  obtain ⟨h1, h2, h3⟩ := hv_rd_ok (fun hb => by rw [Bool.and_eq_true, Bool.and_eq_true] at hb; exact hb.2.2) h
  rw [Bool.and_eq_true, Bool.and_eq_true] at h1
  refine ⟨h1.1, h1.2.1, ?_⟩
  have e : hv_can st = ⟨(hv_can st).tm, (hv_can st).own, 1004⟩ := by kernel_rfl
  rw [e, h2, h3]
  rfl
noncomputable def hv_cond (u : hv_U) (v : hv_V) : Bool := runC (hv_step u) v
noncomputable def hv_g (u : hv_U) (v : hv_V) : Nat × hv_V := runG (hv_step u) v
theorem hv_hg : ∀ (u : hv_U) (v : hv_V), hv_cond u v = true → loopN (hv_step u) ((fun u v => runF (hv_step u) v) u v) v = some (hv_g u v) := by
  exact fun u v h => run_hg h
noncomputable def hv_m (st : Stt) : Option (Tr (Ex × Stt)) := sumM hv_read hv_cond hv_St hv_g [(0, .exit 0)] st
noncomputable def moJ_L52 : FuncId → Loops := addL 14 [0, 1, 0, 1, 1] hv_m moH_L57
set_option maxRecDepth 100000 in
set_option maxHeartbeats 4000000 in
theorem moJ_L52_ok : LoopsOK Try.prog moJ_L52 :=
  loop_sumF (body := (bodyOf Try.prog 14)) (c := (loopOf (bodyOf Try.prog 14) [1, 1, 0, 1, 0])) (kinds := [.exit 0]) (allow := [(0, .exit 0)]) (St := hv_St) (step := hv_step) (W := [0, 5, 6, 7, 8, 9, 10, 11, 12, 13, 14, 15, 16, 17, 18, 19, 20, 21, 22, 23, 24, 25, 26, 27, 28, 29, 30, 31, 32, 33, 34, 35, 36, 37]) (As := []) (ks := [0]) (dd := []) (nx := 1004) (n := 100000) (g := hv_g) (cond := hv_cond) (fuel := (fun u v => runF (hv_step u) v)) (read := hv_read) (by kernel_rfl) (moJ_S51_ok) (moH_L57_ok) 7 ⟨Try.f14, by kernel_rfl, by kernel_rfl⟩ (by kernel_rfl) (by kernel_rfl) (by kernel_rfl) hv_step_eq hv_hg hv_read_ok
theorem hv_run (R : Rg) : hv_cond (false, R) (0, 0) = true ∧ (hv_g (false, R) (0, 0)).1 = 0 := by
  refine run_val (step := hv_step (false, R)) (Inv := fun s => ∃ (n : Int) (i : Nat), s = (n, (i : Int)) ∧ i ≤ 300) (μ := fun s => 300 - s.2.toNat) (Q := fun t => t.1 = 0) ?_ _ _ (Nat.lt_succ_self _) ⟨0, 0, rfl, by omega⟩
  rintro s ⟨n, i, rfl, hi⟩
  by_cases g : i < R.length ∧ i < 300
  · have d1 := lt_t g.1
    have d2 : decide ((i : Int) < (300 : Int)) = true := decide_eq_true (by omega)
    have w : IntKind.wrap IntKind.i64 ((i : Int) + (1 : Int)) = ((i + 1 : Nat) : Int) := by rw [wid (by omega) (by omega)]; omega
    have g1 := g.1
    refine ⟨.inl (IntKind.wrap IntKind.i64 (n + (R[i].2.length : Int)), ((i + 1 : Nat) : Int)), ?_, ⟨_, i + 1, rfl, by omega⟩, by show 300 - ((i + 1 : Nat) : Int).toNat < 300 - (i : Int).toNat; omega⟩
    simp only [hv_step, Tr.val, d1, d2, nn_t, el_g g.1, w, Bool.and_self, cond_true]
  · have d : (bif decide ((i : Int) < (R.length : Int)) then decide ((i : Int) < (300 : Int)) else false) = false := by
      by_cases h : i < R.length
      · rw [lt_t h, decide_eq_false (show ¬ (i : Int) < 300 by omega)]; rfl
      · rw [decide_eq_false (show ¬ (i : Int) < (R.length : Int) by omega)]; rfl
    exact ⟨.inr (0, (n, (i : Int))), by simp only [hv_step, Tr.val, d, cond_false], rfl⟩
noncomputable def hvG (R : Rg) : Bool := bif bif decide ((R.length : Int) > (200 : Int)) then true else decide (Prod.fst (Prod.snd (hv_g (false, R) ((0 : Int), (0 : Int)))) > (400 : Int)) then true else decide (cntV R > (1500 : Int))
set_option maxRecDepth 100000 in
theorem hvc_tree (R : (Ty.list (.prod (.int .i64) (.list (.prod (.int .i64) (.int .i64))))).den) : evalF Try.prog moJ_S51 (opens []) moJ_L52 9 14 [.ag [.d false false (.prod (.int .i64) (.list (.prod (.int .i64) (.int .i64)))) R]] = .br (((hv_cond (false, R) ((0 : Int), (0 : Int))) && ((Nat.beq (Prod.fst (hv_g (false, R) ((0 : Int), (0 : Int)))) (0 : Nat)) && (bif bif decide ((↑(List.length R) : Int) > (200 : Int)) then true else decide (Prod.fst (Prod.snd (hv_g (false, R) ((0 : Int), (0 : Int)))) > (400 : Int)) then true else (szG R))))) (.ret (.one (.v false (.bool (bif bif decide ((↑(List.length R) : Int) > (200 : Int)) then true else decide (Prod.fst (Prod.snd (hv_g (false, R) ((0 : Int), (0 : Int)))) > (400 : Int)) then true else decide (cntV R > (1500 : Int))))))) (.bad 116) := by kernel_rfl
theorem hvc_val (R : (Ty.list (.prod (.int .i64) (.list (.prod (.int .i64) (.int .i64))))).den) (hc : (szG R) = true) : (.br (((hv_cond (false, R) ((0 : Int), (0 : Int))) && ((Nat.beq (Prod.fst (hv_g (false, R) ((0 : Int), (0 : Int)))) (0 : Nat)) && (bif bif decide ((↑(List.length R) : Int) > (200 : Int)) then true else decide (Prod.fst (Prod.snd (hv_g (false, R) ((0 : Int), (0 : Int)))) > (400 : Int)) then true else (szG R))))) (.ret (.one (.v false (.bool (bif bif decide ((↑(List.length R) : Int) > (200 : Int)) then true else decide (Prod.fst (Prod.snd (hv_g (false, R) ((0 : Int), (0 : Int)))) > (400 : Int)) then true else decide (cntV R > (1500 : Int))))))) (.bad 116) : Tr AV).val = some (.one (.v false (.bool (hvG R)))) := by
  obtain ⟨K, rfl⟩ : ∃ K : Rg, K = R := ⟨R, rfl⟩
  have hs : szG K = true := hc
  obtain ⟨v1, v2⟩ := hv_run K
  unfold hvG
  show cond _ _ _ = _
  simp only [v1, v2, hs, Nat.beq, Bool.and_self, Bool.cond_self, cond_true, Tr.val]
noncomputable def hvc_g : List AV → Option (Tr AV)
  | [.ag [.d _ _ (.prod (.int .i64) (.list (.prod (.int .i64) (.int .i64)))) R]] => some (.br (szG R) (.ret (.one (.v false (.bool (hvG R))))) (.bad 900))
  | _ => none
set_option maxHeartbeats 4000000 in
theorem hvc_ok : FunOK Try.prog 14 hvc_g := by
  refine fun_ok (by kernel_rfl) (moJ_S51_ok) (moJ_L52_ok) 9 (On := (opens [])) (fun args t h => ?_)
  unfold hvc_g at h
  split at h
  · rename_i _ _ R
    simp only [Option.some.injEq] at h
    subst h
    refine ⟨[.ag [.d false false (.prod (.int .i64) (.list (.prod (.int .i64) (.int .i64)))) R]], rfl, fun fr w us h => h, fun r hr => ?_⟩
    obtain ⟨hc, hr⟩ := br_bad hr
    simp only [Tr.val, Option.some.injEq] at hr
    subst hr
    rw [hvc_tree]
    exact hvc_val R hc
  · cases h
noncomputable def moJ_S53 : Sums := addS 14 hvc_g moJ_S51
theorem moJ_S53_ok : SumOK Try.prog moJ_S53 := addS_ok (hvc_ok) (moJ_S51_ok)
theorem inr_sz {R : Rg} (r : Ty.InR (.list (.prod (.int .i64) (.list (.prod (.int .i64) (.int .i64))))) R) : szG R = true := by
  unfold szG
  have h1 : R.length ≤ maxLen := r.1
  have h2 : ∀ x ∈ R, x.2.length ≤ maxLen := fun x hx => (r.2 x hx).2.1
  unfold maxLen at h1 h2
  rw [Bool.and_eq_true, decide_eq_true_eq, List.all_eq_true]
  exact ⟨by omega, fun x hx => decide_eq_true (by have := h2 x hx; omega)⟩
theorem chk_ok {R : Rg} {k : Int} (h : (chkE R k != (0 : Int)) = false) : 0 ≤ k ∧ k ≤ 64 ∧ valG R ∧ fitsG R k ∧ dlG R k = sqG true R k := by
  unfold chkE at h
  unfold dlG
  cases hr : rchB k
  · rw [hr] at h; cases h
  · cases hv : valGB R
    · rw [hr, hv] at h; cases h
    · cases hf : fitB R k
      · rw [hr, hv, hf] at h; cases h
      · exact ⟨(rch_iff.1 hr).1, (rch_iff.1 hr).2, valGB_iff.1 hv, fitB_iff.1 hf, rfl⟩
theorem dc_val (R : Rg) (k : Int) : valG (dcG R k) := by
  unfold dcG
  cases rchB k && valGB R && fitB R k
  · exact valG_nil
  · exact dm_val _ _ _
theorem ec_val (R : Rg) (k : Int) : valG (ecG R k) := by
  unfold ecG
  cases rchB k && valGB R
  · exact valG_nil
  · exact dm_val _ _ _
theorem sz_dc (R : Rg) (k : Int) : szG (dcG R k) = true := val_sz (dc_val R k)
theorem sz_ec (R : Rg) (k : Int) : szG (ecG R k) = true := val_sz (ec_val R k)
theorem ec_eq {R : Rg} {k : Int} (h : valG R) (k0 : 0 ≤ k) (k1 : k ≤ 64) : ecG R k = dmG false R k := by
  unfold ecG
  rw [rch_iff.2 ⟨k0, k1⟩, valGB_t h]; rfl
theorem dc_eq {R : Rg} {k : Int} (h : valG R) (k0 : 0 ≤ k) (k1 : k ≤ 64) (hf : fitsG R k) : dcG R k = dmG true R k := by
  unfold dcG
  rw [rch_iff.2 ⟨k0, k1⟩, valGB_t h, fitB_iff.2 hf]; rfl
theorem someP {s1 s2 : Bool} {P : Int → Prop} {S : Prop} {l d : Int} (hl : l ≤ d) (h : s1 = true ↔ S ∨ ∃ z, l ≤ z ∧ z < d ∧ P z) (g : s2 = true ↔ s1 = true ∨ P d) : s2 = true ↔ S ∨ ∃ z, l ≤ z ∧ z < d + 1 ∧ P z := by
  rw [g, h]
  constructor
  · rintro ((q | ⟨z, z1, z2, z3⟩) | q)
    · exact .inl q
    · exact .inr ⟨z, z1, by omega, z3⟩
    · exact .inr ⟨d, hl, by omega, q⟩
  · rintro (q | ⟨z, z1, z2, z3⟩)
    · exact .inl (.inl q)
    · by_cases e : z = d
      · subst e; exact .inr z3
      · exact .inl (.inr ⟨z, z1, by omega, z3⟩)
theorem allP {s1 s2 : Bool} {P : Int → Prop} {S : Prop} {l d : Int} (hl : l ≤ d) (h : s1 = true ↔ S ∧ ∀ z, l ≤ z → z < d → P z) (g : s2 = true ↔ s1 = true ∧ P d) : s2 = true ↔ S ∧ ∀ z, l ≤ z → z < d + 1 → P z := by
  rw [g, h]
  constructor
  · rintro ⟨⟨q, r⟩, p⟩
    refine ⟨q, fun z z1 z2 => ?_⟩
    by_cases e : z = d
    · subst e; exact p
    · exact r z z1 (by omega)
  · rintro ⟨q, r⟩
    exact ⟨⟨q, fun z z1 z2 => r z z1 (by omega)⟩, r d hl (by omega)⟩
theorem bif_or (a b : Bool) : (bif a then true else b) = true ↔ a = true ∨ b = true := by cases a <;> simp
theorem bif_and (a b : Bool) : (bif a then b else false) = true ↔ a = true ∧ b = true := by cases a <;> simp
abbrev di1_U : Type := Bool × Int × Int × Int × Int × (Ty.list (.prod (.int .i64) (.list (.prod (.int .i64) (.int .i64))))).den × Int × Int × Int
abbrev di1_V : Type := Bool × Bool × Int
noncomputable def di1_St (u : di1_U) (v : di1_V) : Stt := ⟨[.one .junk, .one (.p 0 0), .one (.v false (.bool u.1)), .one (.p 4 0), .one (.v false (.bool v.1)), .one (.v false (.bool v.2.1)), .one (.v false (.int .i64 u.2.1)), .one (.v false (.int .i64 u.2.2.1)), .one (.v false (.int .i64 v.2.2)), .one .junk, .one .junk, .one .junk, .one .junk, .one .junk, .one .junk, .one .junk, .one .junk, .one .junk, .one .junk, .one .junk, .one .junk, .one .junk, .one .junk, .one .junk, .one .junk, .one .junk, .one .junk, .one .junk, .one .junk, .one .junk, .one .junk, .one .junk, .one .junk, .one .junk, .one .junk, .one .junk, .one .junk, .one .junk, .one .junk, .one .junk, .one .junk, .one .junk, .one .junk, .one .junk, .one .junk, .one .junk, .one .junk, .one .junk, .one .junk, .one .junk, .one .junk, .one .junk, .one .junk, .one .junk, .one .junk, .one .junk, .one .junk, .one .junk, .one .junk, .one .junk, .one .junk, .one .junk, .one .junk, .one .junk, .one .junk, .one .junk, .one .junk, .one .junk, .one .junk, .one .junk, .one .junk, .one .junk, .one .junk, .one .junk, .one .junk, .one .junk, .one .junk, .one .junk, .one .junk, .one .junk, .one .junk, .one .junk, .one .junk, .one .junk, .one .junk, .one .junk, .one .junk, .one .junk, .one .junk, .one .junk, .one .junk, .one .junk, .one .junk, .one .junk, .one .junk, .one .junk, .one .junk, .one .junk, .one .junk, .one .junk, .one .junk, .one .junk, .one .junk, .one .junk, .one .junk, .one .junk, .one .junk, .one .junk, .one .junk, .one .junk, .one .junk, .one .junk, .one .junk, .one .junk, .one .junk, .one .junk, .one .junk, .one .junk, .one .junk, .one .junk, .one .junk, .one .junk, .one .junk, .one .junk, .one .junk, .one .junk, .one .junk, .one .junk], [(4, .cells [.v false (.int .i64 u.2.2.2.1), .v false (.int .i64 u.2.2.2.2.1)]), (0, .cells [.d false false (.prod (.int .i64) (.list (.prod (.int .i64) (.int .i64)))) u.2.2.2.2.2.1, .v false (.int .i64 u.2.2.2.2.2.2.1), .v false (.int .i64 u.2.2.2.2.2.2.2.1), .v false (.int .i64 u.2.2.2.2.2.2.2.2)])], 2066⟩
noncomputable def di1_step (u : di1_U) (v : di1_V) : Tr (di1_V ⊕ (Nat × di1_V)) :=
  match u, v with
  | (_, q3, q4, q6, q7, q8, _, _, _), (q1, q2, q5) => .br (decide (q5 ≤ q4)) (.br (szG q8) (.ret (.inl (bif q1 then true else valGB q8 && memG q8 (IntKind.wrap IntKind.i64 (q6 + q5)) (IntKind.wrap IntKind.i64 (q7 + q3)), bif q2 then valGB q8 && memG q8 (IntKind.wrap IntKind.i64 (q6 + q5)) (IntKind.wrap IntKind.i64 (q7 + q3)) else false, IntKind.wrap IntKind.i64 (q5 + (1 : Int))))) (.bad 900)) (.ret (.inr (0, (q1, q2, q5))))
set_option maxRecDepth 100000 in
set_option maxHeartbeats 4000000 in
theorem di1_step_eq : ∀ (u : di1_U) (v : di1_V), (evalC Try.prog (evalB Try.prog moJ_S53 (opens []) moJ_L52 7).1 (evalB Try.prog moJ_S53 (opens []) moJ_L52 7).2 (opens []) (moJ_L52 11) 100000 (0 :: [0, 1, 1, 0, 0, 1, 0, 0, 1, 0, 1, 1, 1, 1]) (loopOf (bodyOf Try.prog 11) [1, 1, 1, 1, 0, 1, 0, 0, 1, 0, 0, 1, 1, 0]) (di1_St u v) []).bind (finF [0, 9, 10, 11, 12, 13, 14, 15, 16, 17, 18, 19, 20, 21, 22, 23, 24, 25, 26, 27, 28, 29, 30, 31, 32, 33, 34, 35, 36, 37, 38, 39, 40, 41, 42, 43, 44, 45, 46, 47, 48, 49, 50, 51, 52, 53, 54, 55, 56, 57, 58, 59, 60, 61, 62, 63, 64, 65, 66, 67, 68, 69, 70, 71, 72, 73, 74, 75, 76, 77, 78, 79, 80, 81, 82, 83, 84, 85, 86, 87, 88, 89, 90, 91, 92, 93, 94, 95, 96, 97, 98, 99, 100, 101, 102, 103, 104, 105, 106, 107, 108, 109, 110, 111, 112, 113, 114, 115, 116, 117, 118, 119, 120, 121, 122, 123, 124, 125, 126, 127] [] [4, 0] [] 2066) = (di1_step u v).bind (outA (di1_St u) [.exit 2]) := by
  rintro ⟨q0, q3, q4, q6, q7, q8, q9, q10, q11⟩ ⟨q1, q2, q5⟩
  kernel_rfl
noncomputable def di1_rd (b : Bool) (o1 : Option AV) (o2 : Option AV) (o3 : Option AV) (o4 : Option AV) (o5 : Option AV) (o6 : Option AV) (o7 : Option AV) (o8 : Option AV) (own : Own) : Option (di1_U × di1_V) := zrT b <| zrO o1 fun za1 => zrA1 za1 fun zc2 => zrP 0 0 zc2 <| zrO o2 fun za3 => zrA1 za3 fun zc4 => zrB zc4 fun q0 => zrO o3 fun za5 => zrA1 za5 fun zc6 => zrP 4 0 zc6 <| zrO o4 fun za7 => zrA1 za7 fun zc8 => zrB zc8 fun q1 => zrO o5 fun za9 => zrA1 za9 fun zc10 => zrB zc10 fun q2 => zrO o6 fun za11 => zrA1 za11 fun zc12 => zrI .i64 zc12 fun q3 => zrO o7 fun za13 => zrA1 za13 fun zc14 => zrI .i64 zc14 fun q4 => zrO o8 fun za15 => zrA1 za15 fun zc16 => zrI .i64 zc16 fun q5 => zrL own fun zq17 zw18 => zrKey 4 zq17 fun zk19 => zrC zk19 fun zl20 => zrL zl20 fun zc21 zr22 => zrI .i64 zc21 fun q6 => zrL zr22 fun zc23 zr24 => zrI .i64 zc23 fun q7 => zrN zr24 <| zrL zw18 fun zq25 zw26 => zrKey 0 zq25 fun zk27 => zrC zk27 fun zl28 => zrL zl28 fun zc29 zr30 => zrD (.prod (.int .i64) (.list (.prod (.int .i64) (.int .i64)))) zc29 fun q8 => zrL zr30 fun zc31 zr32 => zrI .i64 zc31 fun q9 => zrL zr32 fun zc33 zr34 => zrI .i64 zc33 fun q10 => zrL zr34 fun zc35 zr36 => zrI .i64 zc35 fun q11 => zrN zr36 <| zrN zw26 <| some ((q0, q3, q4, q6, q7, q8, q9, q10, q11), (q1, q2, q5))
noncomputable def di1_can (st : Stt) : Stt := canA [0, 9, 10, 11, 12, 13, 14, 15, 16, 17, 18, 19, 20, 21, 22, 23, 24, 25, 26, 27, 28, 29, 30, 31, 32, 33, 34, 35, 36, 37, 38, 39, 40, 41, 42, 43, 44, 45, 46, 47, 48, 49, 50, 51, 52, 53, 54, 55, 56, 57, 58, 59, 60, 61, 62, 63, 64, 65, 66, 67, 68, 69, 70, 71, 72, 73, 74, 75, 76, 77, 78, 79, 80, 81, 82, 83, 84, 85, 86, 87, 88, 89, 90, 91, 92, 93, 94, 95, 96, 97, 98, 99, 100, 101, 102, 103, 104, 105, 106, 107, 108, 109, 110, 111, 112, 113, 114, 115, 116, 117, 118, 119, 120, 121, 122, 123, 124, 125, 126, 127] [] [4, 0] [] 2066 st
noncomputable def di1_cok (st : Stt) : Bool := canAok [0, 9, 10, 11, 12, 13, 14, 15, 16, 17, 18, 19, 20, 21, 22, 23, 24, 25, 26, 27, 28, 29, 30, 31, 32, 33, 34, 35, 36, 37, 38, 39, 40, 41, 42, 43, 44, 45, 46, 47, 48, 49, 50, 51, 52, 53, 54, 55, 56, 57, 58, 59, 60, 61, 62, 63, 64, 65, 66, 67, 68, 69, 70, 71, 72, 73, 74, 75, 76, 77, 78, 79, 80, 81, 82, 83, 84, 85, 86, 87, 88, 89, 90, 91, 92, 93, 94, 95, 96, 97, 98, 99, 100, 101, 102, 103, 104, 105, 106, 107, 108, 109, 110, 111, 112, 113, 114, 115, 116, 117, 118, 119, 120, 121, 122, 123, 124, 125, 126, 127] [] [4, 0] [] 2066 st
noncomputable def di1_read (st : Stt) : Option (di1_U × di1_V) := di1_rd (di1_cok st && (staysA [] [4, 0] st.own && juAll [0, 9, 10, 11, 12, 13, 14, 15, 16, 17, 18, 19, 20, 21, 22, 23, 24, 25, 26, 27, 28, 29, 30, 31, 32, 33, 34, 35, 36, 37, 38, 39, 40, 41, 42, 43, 44, 45, 46, 47, 48, 49, 50, 51, 52, 53, 54, 55, 56, 57, 58, 59, 60, 61, 62, 63, 64, 65, 66, 67, 68, 69, 70, 71, 72, 73, 74, 75, 76, 77, 78, 79, 80, 81, 82, 83, 84, 85, 86, 87, 88, 89, 90, 91, 92, 93, 94, 95, 96, 97, 98, 99, 100, 101, 102, 103, 104, 105, 106, 107, 108, 109, 110, 111, 112, 113, 114, 115, 116, 117, 118, 119, 120, 121, 122, 123, 124, 125, 126, 127] (di1_can st).tm 128)) (di1_can st).tm[1]? (di1_can st).tm[2]? (di1_can st).tm[3]? (di1_can st).tm[4]? (di1_can st).tm[5]? (di1_can st).tm[6]? (di1_can st).tm[7]? (di1_can st).tm[8]? (di1_can st).own
set_option maxRecDepth 100000 in
set_option maxHeartbeats 4000000 in
theorem di1_rd_ok {b : Bool} {tm : List AV} {own : Own} {u : di1_U} {v : di1_V} (hj : b = true → juAll [0, 9, 10, 11, 12, 13, 14, 15, 16, 17, 18, 19, 20, 21, 22, 23, 24, 25, 26, 27, 28, 29, 30, 31, 32, 33, 34, 35, 36, 37, 38, 39, 40, 41, 42, 43, 44, 45, 46, 47, 48, 49, 50, 51, 52, 53, 54, 55, 56, 57, 58, 59, 60, 61, 62, 63, 64, 65, 66, 67, 68, 69, 70, 71, 72, 73, 74, 75, 76, 77, 78, 79, 80, 81, 82, 83, 84, 85, 86, 87, 88, 89, 90, 91, 92, 93, 94, 95, 96, 97, 98, 99, 100, 101, 102, 103, 104, 105, 106, 107, 108, 109, 110, 111, 112, 113, 114, 115, 116, 117, 118, 119, 120, 121, 122, 123, 124, 125, 126, 127] tm 128 = true) (h : di1_rd b tm[1]? tm[2]? tm[3]? tm[4]? tm[5]? tm[6]? tm[7]? tm[8]? own = some (u, v)) : b = true ∧ tm = (di1_St u v).tm ∧ own = (di1_St u v).own := by
  unfold di1_rd at h
  obtain ⟨rfl, h0⟩ := zrT_some h
  obtain ⟨za1, e1, h1⟩ := zrO_some h0
  obtain ⟨zc2, rfl, h2⟩ := zrA1_some h1
  obtain ⟨rfl, h3⟩ := zrP_some h2
  obtain ⟨za3, e2, h4⟩ := zrO_some h3
  obtain ⟨zc4, rfl, h5⟩ := zrA1_some h4
  obtain ⟨q0, rfl, h6⟩ := zrB_some h5
  obtain ⟨za5, e3, h7⟩ := zrO_some h6
  obtain ⟨zc6, rfl, h8⟩ := zrA1_some h7
  obtain ⟨rfl, h9⟩ := zrP_some h8
  obtain ⟨za7, e4, h10⟩ := zrO_some h9
  obtain ⟨zc8, rfl, h11⟩ := zrA1_some h10
  obtain ⟨q1, rfl, h12⟩ := zrB_some h11
  obtain ⟨za9, e5, h13⟩ := zrO_some h12
  obtain ⟨zc10, rfl, h14⟩ := zrA1_some h13
  obtain ⟨q2, rfl, h15⟩ := zrB_some h14
  obtain ⟨za11, e6, h16⟩ := zrO_some h15
  obtain ⟨zc12, rfl, h17⟩ := zrA1_some h16
  obtain ⟨q3, rfl, h18⟩ := zrI_some h17
  obtain ⟨za13, e7, h19⟩ := zrO_some h18
  obtain ⟨zc14, rfl, h20⟩ := zrA1_some h19
  obtain ⟨q4, rfl, h21⟩ := zrI_some h20
  obtain ⟨za15, e8, h22⟩ := zrO_some h21
  obtain ⟨zc16, rfl, h23⟩ := zrA1_some h22
  obtain ⟨q5, rfl, h24⟩ := zrI_some h23
  obtain ⟨zq17, zw18, rfl, h25⟩ := zrL_some h24
  obtain ⟨zk19, rfl, h26⟩ := zrKey_some h25
  obtain ⟨zl20, rfl, h27⟩ := zrC_some h26
  obtain ⟨zc21, zr22, rfl, h28⟩ := zrL_some h27
  obtain ⟨q6, rfl, h29⟩ := zrI_some h28
  obtain ⟨zc23, zr24, rfl, h30⟩ := zrL_some h29
  obtain ⟨q7, rfl, h31⟩ := zrI_some h30
  obtain ⟨rfl, h32⟩ := zrN_some h31
  obtain ⟨zq25, zw26, rfl, h33⟩ := zrL_some h32
  obtain ⟨zk27, rfl, h34⟩ := zrKey_some h33
  obtain ⟨zl28, rfl, h35⟩ := zrC_some h34
  obtain ⟨zc29, zr30, rfl, h36⟩ := zrL_some h35
  obtain ⟨q8, rfl, h37⟩ := zrD_some h36
  obtain ⟨zc31, zr32, rfl, h38⟩ := zrL_some h37
  obtain ⟨q9, rfl, h39⟩ := zrI_some h38
  obtain ⟨zc33, zr34, rfl, h40⟩ := zrL_some h39
  obtain ⟨q10, rfl, h41⟩ := zrI_some h40
  obtain ⟨zc35, zr36, rfl, h42⟩ := zrL_some h41
  obtain ⟨q11, rfl, h43⟩ := zrI_some h42
  obtain ⟨rfl, h44⟩ := zrN_some h43
  obtain ⟨rfl, h45⟩ := zrN_some h44
  have h := Option.some.inj h45
  have hu := congrArg Prod.fst h
  have hv := congrArg Prod.snd h
  dsimp only at hu hv
  subst hu
  subst hv
  exact ⟨rfl, (tm_fill (hj rfl) (Lv := [(1, .one (.p 0 0)), (2, .one (.v false (.bool q0))), (3, .one (.p 4 0)), (4, .one (.v false (.bool q1))), (5, .one (.v false (.bool q2))), (6, .one (.v false (.int .i64 q3))), (7, .one (.v false (.int .i64 q4))), (8, .one (.v false (.int .i64 q5)))]) (by kernel_rfl) ⟨e1, e2, e3, e4, e5, e6, e7, e8, trivial⟩).trans (by kernel_rfl), rfl⟩
theorem di1_read_ok (st : Stt) (u : di1_U) (v : di1_V) (h : di1_read st = some (u, v)) : di1_cok st = true ∧ staysA [] [4, 0] st.own = true ∧ di1_can st = di1_St u v := by
  obtain ⟨h1, h2, h3⟩ := di1_rd_ok (fun hb => by rw [Bool.and_eq_true, Bool.and_eq_true] at hb; exact hb.2.2) h
  rw [Bool.and_eq_true, Bool.and_eq_true] at h1
  refine ⟨h1.1, h1.2.1, ?_⟩
  have e : di1_can st = ⟨(di1_can st).tm, (di1_can st).own, 2066⟩ := by kernel_rfl
  rw [e, h2, h3]
  rfl
noncomputable def di1_cond (u : di1_U) (v : di1_V) : Bool := runC (di1_step u) v
noncomputable def di1_g (u : di1_U) (v : di1_V) : Nat × di1_V := runG (di1_step u) v
theorem di1_hg : ∀ (u : di1_U) (v : di1_V), di1_cond u v = true → loopN (di1_step u) ((fun u v => runF (di1_step u) v) u v) v = some (di1_g u v) := by
  exact fun u v h => run_hg h
noncomputable def di1_m (st : Stt) : Option (Tr (Ex × Stt)) := sumM di1_read di1_cond di1_St di1_g [(0, .exit 2)] st
noncomputable def moJ_L54 : FuncId → Loops := addL 11 [0, 1, 1, 0, 0, 1, 0, 0, 1, 0, 1, 1, 1, 1] di1_m moJ_L52
set_option maxRecDepth 100000 in
set_option maxHeartbeats 4000000 in
theorem moJ_L54_ok : LoopsOK Try.prog moJ_L54 :=
  loop_sumF (body := (bodyOf Try.prog 11)) (c := (loopOf (bodyOf Try.prog 11) [1, 1, 1, 1, 0, 1, 0, 0, 1, 0, 0, 1, 1, 0])) (kinds := [.exit 2]) (allow := [(0, .exit 2)]) (St := di1_St) (step := di1_step) (W := [0, 9, 10, 11, 12, 13, 14, 15, 16, 17, 18, 19, 20, 21, 22, 23, 24, 25, 26, 27, 28, 29, 30, 31, 32, 33, 34, 35, 36, 37, 38, 39, 40, 41, 42, 43, 44, 45, 46, 47, 48, 49, 50, 51, 52, 53, 54, 55, 56, 57, 58, 59, 60, 61, 62, 63, 64, 65, 66, 67, 68, 69, 70, 71, 72, 73, 74, 75, 76, 77, 78, 79, 80, 81, 82, 83, 84, 85, 86, 87, 88, 89, 90, 91, 92, 93, 94, 95, 96, 97, 98, 99, 100, 101, 102, 103, 104, 105, 106, 107, 108, 109, 110, 111, 112, 113, 114, 115, 116, 117, 118, 119, 120, 121, 122, 123, 124, 125, 126, 127]) (As := []) (ks := [4, 0]) (dd := []) (nx := 2066) (n := 100000) (g := di1_g) (cond := di1_cond) (fuel := (fun u v => runF (di1_step u) v)) (read := di1_read) (by kernel_rfl) (moJ_S53_ok) (moJ_L52_ok) 7 ⟨Try.f11, by kernel_rfl, by kernel_rfl⟩ (by kernel_rfl) (by kernel_rfl) (by kernel_rfl) di1_step_eq di1_hg di1_read_ok
abbrev di0_U : Type := Bool × Int × Int × (Ty.list (.prod (.int .i64) (.list (.prod (.int .i64) (.int .i64))))).den × Int × Int × Int
abbrev di0_V : Type := Bool × Bool × Int
noncomputable def di0_St (u : di0_U) (v : di0_V) : Stt := ⟨[.one .junk, .one (.p 0 0), .one (.v false (.bool u.1)), .one (.p 4 0), .one (.v false (.bool v.1)), .one (.v false (.bool v.2.1)), .one (.v false (.int .i64 v.2.2)), .one .junk, .one .junk, .one .junk, .one .junk, .one .junk, .one .junk, .one .junk, .one .junk, .one .junk, .one .junk, .one .junk, .one .junk, .one .junk, .one .junk, .one .junk, .one .junk, .one .junk, .one .junk, .one .junk, .one .junk, .one .junk, .one .junk, .one .junk, .one .junk, .one .junk, .one .junk, .one .junk, .one .junk, .one .junk, .one .junk, .one .junk, .one .junk, .one .junk, .one .junk, .one .junk, .one .junk, .one .junk, .one .junk, .one .junk, .one .junk, .one .junk, .one .junk, .one .junk, .one .junk, .one .junk, .one .junk, .one .junk, .one .junk, .one .junk, .one .junk, .one .junk, .one .junk, .one .junk, .one .junk, .one .junk, .one .junk, .one .junk, .one .junk, .one .junk, .one .junk, .one .junk, .one .junk, .one .junk, .one .junk, .one .junk, .one .junk, .one .junk, .one .junk, .one .junk, .one .junk, .one .junk, .one .junk, .one .junk, .one .junk, .one .junk, .one .junk, .one .junk, .one .junk, .one .junk, .one .junk, .one .junk, .one .junk, .one .junk, .one .junk, .one .junk, .one .junk, .one .junk, .one .junk, .one .junk, .one .junk, .one .junk, .one .junk, .one .junk, .one .junk, .one .junk, .one .junk, .one .junk, .one .junk, .one .junk, .one .junk, .one .junk, .one .junk, .one .junk, .one .junk, .one .junk, .one .junk, .one .junk, .one .junk, .one .junk, .one .junk, .one .junk, .one .junk, .one .junk, .one .junk, .one .junk, .one .junk, .one .junk, .one .junk, .one .junk, .one .junk, .one .junk], [(4, .cells [.v false (.int .i64 u.2.1), .v false (.int .i64 u.2.2.1)]), (0, .cells [.d false false (.prod (.int .i64) (.list (.prod (.int .i64) (.int .i64)))) u.2.2.2.1, .v false (.int .i64 u.2.2.2.2.1), .v false (.int .i64 u.2.2.2.2.2.1), .v false (.int .i64 u.2.2.2.2.2.2)])], 1051⟩
noncomputable def di0_step (u : di0_U) (v : di0_V) : Tr (di0_V ⊕ (Nat × di0_V)) :=
  match u, v with
  | (q0, q4, q5, q6, q7, q8, q9), (q1, q2, q3) => .br (decide (q3 ≤ q7)) (.br (di1_cond (q0, q3, IntKind.wrap IntKind.i64 (q7 - if IntKind.wrap IntKind.i64 ((0 : Int) - q3) > q3 then IntKind.wrap IntKind.i64 ((0 : Int) - q3) else q3), q4, q5, q6, q7, q8, q9) (q1, q2, IntKind.wrap IntKind.i64 ((0 : Int) - IntKind.wrap IntKind.i64 (q7 - if IntKind.wrap IntKind.i64 ((0 : Int) - q3) > q3 then IntKind.wrap IntKind.i64 ((0 : Int) - q3) else q3)))) (.br (Nat.beq (Prod.fst (di1_g (q0, q3, IntKind.wrap IntKind.i64 (q7 - if IntKind.wrap IntKind.i64 ((0 : Int) - q3) > q3 then IntKind.wrap IntKind.i64 ((0 : Int) - q3) else q3), q4, q5, q6, q7, q8, q9) (q1, q2, IntKind.wrap IntKind.i64 ((0 : Int) - IntKind.wrap IntKind.i64 (q7 - if IntKind.wrap IntKind.i64 ((0 : Int) - q3) > q3 then IntKind.wrap IntKind.i64 ((0 : Int) - q3) else q3))))) (0 : Nat)) (.ret (.inl (Prod.fst (Prod.snd (di1_g (q0, q3, IntKind.wrap IntKind.i64 (q7 - if IntKind.wrap IntKind.i64 ((0 : Int) - q3) > q3 then IntKind.wrap IntKind.i64 ((0 : Int) - q3) else q3), q4, q5, q6, q7, q8, q9) (q1, q2, IntKind.wrap IntKind.i64 ((0 : Int) - IntKind.wrap IntKind.i64 (q7 - if IntKind.wrap IntKind.i64 ((0 : Int) - q3) > q3 then IntKind.wrap IntKind.i64 ((0 : Int) - q3) else q3))))), Prod.fst (Prod.snd (Prod.snd (di1_g (q0, q3, IntKind.wrap IntKind.i64 (q7 - if IntKind.wrap IntKind.i64 ((0 : Int) - q3) > q3 then IntKind.wrap IntKind.i64 ((0 : Int) - q3) else q3), q4, q5, q6, q7, q8, q9) (q1, q2, IntKind.wrap IntKind.i64 ((0 : Int) - IntKind.wrap IntKind.i64 (q7 - if IntKind.wrap IntKind.i64 ((0 : Int) - q3) > q3 then IntKind.wrap IntKind.i64 ((0 : Int) - q3) else q3)))))), IntKind.wrap IntKind.i64 (q3 + (1 : Int))))) (.bad 902)) (.bad 901)) (.ret (.inr (0, (q1, q2, q3))))
set_option maxRecDepth 100000 in
set_option maxHeartbeats 4000000 in
theorem di0_step_eq : ∀ (u : di0_U) (v : di0_V), (evalC Try.prog (evalB Try.prog moJ_S53 (opens []) moJ_L54 7).1 (evalB Try.prog moJ_S53 (opens []) moJ_L54 7).2 (opens []) (moJ_L54 11) 100000 (0 :: [0, 1, 0, 1, 1, 1, 1]) (loopOf (bodyOf Try.prog 11) [1, 1, 1, 1, 0, 1, 0]) (di0_St u v) []).bind (finF [0, 7, 8, 9, 10, 11, 12, 13, 14, 15, 16, 17, 18, 19, 20, 21, 22, 23, 24, 25, 26, 27, 28, 29, 30, 31, 32, 33, 34, 35, 36, 37, 38, 39, 40, 41, 42, 43, 44, 45, 46, 47, 48, 49, 50, 51, 52, 53, 54, 55, 56, 57, 58, 59, 60, 61, 62, 63, 64, 65, 66, 67, 68, 69, 70, 71, 72, 73, 74, 75, 76, 77, 78, 79, 80, 81, 82, 83, 84, 85, 86, 87, 88, 89, 90, 91, 92, 93, 94, 95, 96, 97, 98, 99, 100, 101, 102, 103, 104, 105, 106, 107, 108, 109, 110, 111, 112, 113, 114, 115, 116, 117, 118, 119, 120, 121, 122, 123, 124, 125, 126, 127] [] [4, 0] [] 1051) = (di0_step u v).bind (outA (di0_St u) [.exit 0]) := by
  rintro ⟨q0, q4, q5, q6, q7, q8, q9⟩ ⟨q1, q2, q3⟩
  kernel_rfl
noncomputable def di0_rd (b : Bool) (o1 : Option AV) (o2 : Option AV) (o3 : Option AV) (o4 : Option AV) (o5 : Option AV) (o6 : Option AV) (own : Own) : Option (di0_U × di0_V) := zrT b <| zrO o1 fun za1 => zrA1 za1 fun zc2 => zrP 0 0 zc2 <| zrO o2 fun za3 => zrA1 za3 fun zc4 => zrB zc4 fun q0 => zrO o3 fun za5 => zrA1 za5 fun zc6 => zrP 4 0 zc6 <| zrO o4 fun za7 => zrA1 za7 fun zc8 => zrB zc8 fun q1 => zrO o5 fun za9 => zrA1 za9 fun zc10 => zrB zc10 fun q2 => zrO o6 fun za11 => zrA1 za11 fun zc12 => zrI .i64 zc12 fun q3 => zrL own fun zq13 zw14 => zrKey 4 zq13 fun zk15 => zrC zk15 fun zl16 => zrL zl16 fun zc17 zr18 => zrI .i64 zc17 fun q4 => zrL zr18 fun zc19 zr20 => zrI .i64 zc19 fun q5 => zrN zr20 <| zrL zw14 fun zq21 zw22 => zrKey 0 zq21 fun zk23 => zrC zk23 fun zl24 => zrL zl24 fun zc25 zr26 => zrD (.prod (.int .i64) (.list (.prod (.int .i64) (.int .i64)))) zc25 fun q6 => zrL zr26 fun zc27 zr28 => zrI .i64 zc27 fun q7 => zrL zr28 fun zc29 zr30 => zrI .i64 zc29 fun q8 => zrL zr30 fun zc31 zr32 => zrI .i64 zc31 fun q9 => zrN zr32 <| zrN zw22 <| some ((q0, q4, q5, q6, q7, q8, q9), (q1, q2, q3))
noncomputable def di0_can (st : Stt) : Stt := canA [0, 7, 8, 9, 10, 11, 12, 13, 14, 15, 16, 17, 18, 19, 20, 21, 22, 23, 24, 25, 26, 27, 28, 29, 30, 31, 32, 33, 34, 35, 36, 37, 38, 39, 40, 41, 42, 43, 44, 45, 46, 47, 48, 49, 50, 51, 52, 53, 54, 55, 56, 57, 58, 59, 60, 61, 62, 63, 64, 65, 66, 67, 68, 69, 70, 71, 72, 73, 74, 75, 76, 77, 78, 79, 80, 81, 82, 83, 84, 85, 86, 87, 88, 89, 90, 91, 92, 93, 94, 95, 96, 97, 98, 99, 100, 101, 102, 103, 104, 105, 106, 107, 108, 109, 110, 111, 112, 113, 114, 115, 116, 117, 118, 119, 120, 121, 122, 123, 124, 125, 126, 127] [] [4, 0] [] 1051 st
noncomputable def di0_cok (st : Stt) : Bool := canAok [0, 7, 8, 9, 10, 11, 12, 13, 14, 15, 16, 17, 18, 19, 20, 21, 22, 23, 24, 25, 26, 27, 28, 29, 30, 31, 32, 33, 34, 35, 36, 37, 38, 39, 40, 41, 42, 43, 44, 45, 46, 47, 48, 49, 50, 51, 52, 53, 54, 55, 56, 57, 58, 59, 60, 61, 62, 63, 64, 65, 66, 67, 68, 69, 70, 71, 72, 73, 74, 75, 76, 77, 78, 79, 80, 81, 82, 83, 84, 85, 86, 87, 88, 89, 90, 91, 92, 93, 94, 95, 96, 97, 98, 99, 100, 101, 102, 103, 104, 105, 106, 107, 108, 109, 110, 111, 112, 113, 114, 115, 116, 117, 118, 119, 120, 121, 122, 123, 124, 125, 126, 127] [] [4, 0] [] 1051 st
noncomputable def di0_read (st : Stt) : Option (di0_U × di0_V) := di0_rd (di0_cok st && (staysA [] [4, 0] st.own && juAll [0, 7, 8, 9, 10, 11, 12, 13, 14, 15, 16, 17, 18, 19, 20, 21, 22, 23, 24, 25, 26, 27, 28, 29, 30, 31, 32, 33, 34, 35, 36, 37, 38, 39, 40, 41, 42, 43, 44, 45, 46, 47, 48, 49, 50, 51, 52, 53, 54, 55, 56, 57, 58, 59, 60, 61, 62, 63, 64, 65, 66, 67, 68, 69, 70, 71, 72, 73, 74, 75, 76, 77, 78, 79, 80, 81, 82, 83, 84, 85, 86, 87, 88, 89, 90, 91, 92, 93, 94, 95, 96, 97, 98, 99, 100, 101, 102, 103, 104, 105, 106, 107, 108, 109, 110, 111, 112, 113, 114, 115, 116, 117, 118, 119, 120, 121, 122, 123, 124, 125, 126, 127] (di0_can st).tm 128)) (di0_can st).tm[1]? (di0_can st).tm[2]? (di0_can st).tm[3]? (di0_can st).tm[4]? (di0_can st).tm[5]? (di0_can st).tm[6]? (di0_can st).own
set_option maxRecDepth 100000 in
set_option maxHeartbeats 4000000 in
theorem di0_rd_ok {b : Bool} {tm : List AV} {own : Own} {u : di0_U} {v : di0_V} (hj : b = true → juAll [0, 7, 8, 9, 10, 11, 12, 13, 14, 15, 16, 17, 18, 19, 20, 21, 22, 23, 24, 25, 26, 27, 28, 29, 30, 31, 32, 33, 34, 35, 36, 37, 38, 39, 40, 41, 42, 43, 44, 45, 46, 47, 48, 49, 50, 51, 52, 53, 54, 55, 56, 57, 58, 59, 60, 61, 62, 63, 64, 65, 66, 67, 68, 69, 70, 71, 72, 73, 74, 75, 76, 77, 78, 79, 80, 81, 82, 83, 84, 85, 86, 87, 88, 89, 90, 91, 92, 93, 94, 95, 96, 97, 98, 99, 100, 101, 102, 103, 104, 105, 106, 107, 108, 109, 110, 111, 112, 113, 114, 115, 116, 117, 118, 119, 120, 121, 122, 123, 124, 125, 126, 127] tm 128 = true) (h : di0_rd b tm[1]? tm[2]? tm[3]? tm[4]? tm[5]? tm[6]? own = some (u, v)) : b = true ∧ tm = (di0_St u v).tm ∧ own = (di0_St u v).own := by
  unfold di0_rd at h
  obtain ⟨rfl, h0⟩ := zrT_some h
  obtain ⟨za1, e1, h1⟩ := zrO_some h0
  obtain ⟨zc2, rfl, h2⟩ := zrA1_some h1
  obtain ⟨rfl, h3⟩ := zrP_some h2
  obtain ⟨za3, e2, h4⟩ := zrO_some h3
  obtain ⟨zc4, rfl, h5⟩ := zrA1_some h4
  obtain ⟨q0, rfl, h6⟩ := zrB_some h5
  obtain ⟨za5, e3, h7⟩ := zrO_some h6
  obtain ⟨zc6, rfl, h8⟩ := zrA1_some h7
  obtain ⟨rfl, h9⟩ := zrP_some h8
  obtain ⟨za7, e4, h10⟩ := zrO_some h9
  obtain ⟨zc8, rfl, h11⟩ := zrA1_some h10
  obtain ⟨q1, rfl, h12⟩ := zrB_some h11
  obtain ⟨za9, e5, h13⟩ := zrO_some h12
  obtain ⟨zc10, rfl, h14⟩ := zrA1_some h13
  obtain ⟨q2, rfl, h15⟩ := zrB_some h14
  obtain ⟨za11, e6, h16⟩ := zrO_some h15
  obtain ⟨zc12, rfl, h17⟩ := zrA1_some h16
  obtain ⟨q3, rfl, h18⟩ := zrI_some h17
  obtain ⟨zq13, zw14, rfl, h19⟩ := zrL_some h18
  obtain ⟨zk15, rfl, h20⟩ := zrKey_some h19
  obtain ⟨zl16, rfl, h21⟩ := zrC_some h20
  obtain ⟨zc17, zr18, rfl, h22⟩ := zrL_some h21
  obtain ⟨q4, rfl, h23⟩ := zrI_some h22
  obtain ⟨zc19, zr20, rfl, h24⟩ := zrL_some h23
  obtain ⟨q5, rfl, h25⟩ := zrI_some h24
  obtain ⟨rfl, h26⟩ := zrN_some h25
  obtain ⟨zq21, zw22, rfl, h27⟩ := zrL_some h26
  obtain ⟨zk23, rfl, h28⟩ := zrKey_some h27
  obtain ⟨zl24, rfl, h29⟩ := zrC_some h28
  obtain ⟨zc25, zr26, rfl, h30⟩ := zrL_some h29
  obtain ⟨q6, rfl, h31⟩ := zrD_some h30
  obtain ⟨zc27, zr28, rfl, h32⟩ := zrL_some h31
  obtain ⟨q7, rfl, h33⟩ := zrI_some h32
  obtain ⟨zc29, zr30, rfl, h34⟩ := zrL_some h33
  obtain ⟨q8, rfl, h35⟩ := zrI_some h34
  obtain ⟨zc31, zr32, rfl, h36⟩ := zrL_some h35
  obtain ⟨q9, rfl, h37⟩ := zrI_some h36
  obtain ⟨rfl, h38⟩ := zrN_some h37
  obtain ⟨rfl, h39⟩ := zrN_some h38
  have h := Option.some.inj h39
  have hu := congrArg Prod.fst h
  have hv := congrArg Prod.snd h
  dsimp only at hu hv
  subst hu
  subst hv
  exact ⟨rfl, (tm_fill (hj rfl) (Lv := [(1, .one (.p 0 0)), (2, .one (.v false (.bool q0))), (3, .one (.p 4 0)), (4, .one (.v false (.bool q1))), (5, .one (.v false (.bool q2))), (6, .one (.v false (.int .i64 q3)))]) (by kernel_rfl) ⟨e1, e2, e3, e4, e5, e6, trivial⟩).trans (by kernel_rfl), rfl⟩
theorem di0_read_ok (st : Stt) (u : di0_U) (v : di0_V) (h : di0_read st = some (u, v)) : di0_cok st = true ∧ staysA [] [4, 0] st.own = true ∧ di0_can st = di0_St u v := by
  obtain ⟨h1, h2, h3⟩ := di0_rd_ok (fun hb => by rw [Bool.and_eq_true, Bool.and_eq_true] at hb; exact hb.2.2) h
  rw [Bool.and_eq_true, Bool.and_eq_true] at h1
  refine ⟨h1.1, h1.2.1, ?_⟩
  have e : di0_can st = ⟨(di0_can st).tm, (di0_can st).own, 1051⟩ := by kernel_rfl
  rw [e, h2, h3]
  rfl
noncomputable def di0_cond (u : di0_U) (v : di0_V) : Bool := runC (di0_step u) v
noncomputable def di0_g (u : di0_U) (v : di0_V) : Nat × di0_V := runG (di0_step u) v
theorem di0_hg : ∀ (u : di0_U) (v : di0_V), di0_cond u v = true → loopN (di0_step u) ((fun u v => runF (di0_step u) v) u v) v = some (di0_g u v) := by
  exact fun u v h => run_hg h
noncomputable def di0_m (st : Stt) : Option (Tr (Ex × Stt)) := sumM di0_read di0_cond di0_St di0_g [(0, .exit 0)] st
noncomputable def moJ_L55 : FuncId → Loops := addL 11 [0, 1, 0, 1, 1, 1, 1] di0_m moJ_L54
set_option maxRecDepth 100000 in
set_option maxHeartbeats 4000000 in
theorem moJ_L55_ok : LoopsOK Try.prog moJ_L55 :=
  loop_sumF (body := (bodyOf Try.prog 11)) (c := (loopOf (bodyOf Try.prog 11) [1, 1, 1, 1, 0, 1, 0])) (kinds := [.exit 0]) (allow := [(0, .exit 0)]) (St := di0_St) (step := di0_step) (W := [0, 7, 8, 9, 10, 11, 12, 13, 14, 15, 16, 17, 18, 19, 20, 21, 22, 23, 24, 25, 26, 27, 28, 29, 30, 31, 32, 33, 34, 35, 36, 37, 38, 39, 40, 41, 42, 43, 44, 45, 46, 47, 48, 49, 50, 51, 52, 53, 54, 55, 56, 57, 58, 59, 60, 61, 62, 63, 64, 65, 66, 67, 68, 69, 70, 71, 72, 73, 74, 75, 76, 77, 78, 79, 80, 81, 82, 83, 84, 85, 86, 87, 88, 89, 90, 91, 92, 93, 94, 95, 96, 97, 98, 99, 100, 101, 102, 103, 104, 105, 106, 107, 108, 109, 110, 111, 112, 113, 114, 115, 116, 117, 118, 119, 120, 121, 122, 123, 124, 125, 126, 127]) (As := []) (ks := [4, 0]) (dd := []) (nx := 1051) (n := 100000) (g := di0_g) (cond := di0_cond) (fuel := (fun u v => runF (di0_step u) v)) (read := di0_read) (by kernel_rfl) (moJ_S53_ok) (moJ_L54_ok) 7 ⟨Try.f11, by kernel_rfl, by kernel_rfl⟩ (by kernel_rfl) (by kernel_rfl) (by kernel_rfl) di0_step_eq di0_hg di0_read_ok
theorem di1_run {b0 : Bool} {R : Rg} {x y dy k o p r : Int} {s a : Bool} (h : valG R) (hx : -5000 ≤ x ∧ x ≤ 5000) (hy : -5000 ≤ y ∧ y ≤ 5000) (hd : -6 ≤ dy ∧ dy ≤ 6) (k0 : 0 ≤ k) (k1 : k ≤ 6) :
    di1_cond (b0, dy, k, x, y, R, o, p, r) (s, a, -k) = true ∧ (di1_g (b0, dy, k, x, y, R, o, p, r) (s, a, -k)).1 = 0 ∧ ((di1_g (b0, dy, k, x, y, R, o, p, r) (s, a, -k)).2.1 = true ↔ s = true ∨ ∃ dx, -k ≤ dx ∧ dx < k + 1 ∧ memG R (x + dx) (y + dy) = true) ∧ ((di1_g (b0, dy, k, x, y, R, o, p, r) (s, a, -k)).2.2.1 = true ↔ a = true ∧ ∀ dx, -k ≤ dx → dx < k + 1 → memG R (x + dx) (y + dy) = true) := by
  have hv := valGB_t h
  have hs := val_sz h
  refine run_val (step := di1_step (b0, dy, k, x, y, R, o, p, r)) (Inv := fun v => ∃ (s1 a1 : Bool) (d : Int), v = (s1, a1, d) ∧ -k ≤ d ∧ d ≤ k + 1 ∧ (s1 = true ↔ s = true ∨ ∃ dx, -k ≤ dx ∧ dx < d ∧ memG R (x + dx) (y + dy) = true) ∧ (a1 = true ↔ a = true ∧ ∀ dx, -k ≤ dx → dx < d → memG R (x + dx) (y + dy) = true)) (μ := fun v => (k + 1 - v.2.2).toNat) (Q := fun t => t.1 = 0 ∧ (t.2.1 = true ↔ s = true ∨ ∃ dx, -k ≤ dx ∧ dx < k + 1 ∧ memG R (x + dx) (y + dy) = true) ∧ (t.2.2.1 = true ↔ a = true ∧ ∀ dx, -k ≤ dx → dx < k + 1 → memG R (x + dx) (y + dy) = true)) ?_ _ _ (Nat.lt_succ_self _) ⟨s, a, -k, rfl, by omega, by omega, ⟨fun e => .inl e, fun e => e.elim id fun ⟨z, z1, z2, _⟩ => absurd z2 (by omega)⟩, ⟨fun e => ⟨e, fun z z1 z2 => absurd z2 (by omega)⟩, fun e => e.1⟩⟩
  rintro v ⟨s1, a1, d, rfl, d0, d1, i1, i2⟩
  by_cases g : d ≤ k
  · have w1 : IntKind.wrap IntKind.i64 (x + d) = x + d := wid (by omega) (by omega)
    have w2 : IntKind.wrap IntKind.i64 (y + dy) = y + dy := wid (by omega) (by omega)
    have w3 : IntKind.wrap IntKind.i64 (d + (1 : Int)) = d + 1 := wid (by omega) (by omega)
    refine ⟨.inl ((bif s1 then true else memG R (x + d) (y + dy)), (bif a1 then memG R (x + d) (y + dy) else false), d + 1), ?_, ⟨_, _, _, rfl, by omega, by omega, someP d0 i1 (bif_or _ _), allP d0 i2 (bif_and _ _)⟩, by show (k + 1 - (d + 1)).toNat < (k + 1 - d).toNat; omega⟩
    simp only [di1_step, Tr.val, decide_eq_true g, hs, hv, w1, w2, w3, Bool.true_and, cond_true]
  · have : d = k + 1 := by omega
    subst this
    exact ⟨.inr (0, (s1, a1, k + 1)), by simp only [di1_step, Tr.val, decide_eq_false g, cond_false], rfl, i1, i2⟩
theorem di0_run {b0 : Bool} {R : Rg} {x y k p r : Int} (h : valG R) (hx : -5000 ≤ x ∧ x ≤ 5000) (hy : -5000 ≤ y ∧ y ≤ 5000) (k0 : 0 ≤ k) (k1 : k ≤ 6) :
    di0_cond (b0, x, y, R, k, p, r) (false, true, -k) = true ∧ (di0_g (b0, x, y, R, k, p, r) (false, true, -k)).1 = 0 ∧ ((di0_g (b0, x, y, R, k, p, r) (false, true, -k)).2.1 = true ↔ False ∨ ∃ dy, -k ≤ dy ∧ dy < k + 1 ∧ ∃ dx, -(k - max (-dy) dy) ≤ dx ∧ dx < (k - max (-dy) dy) + 1 ∧ memG R (x + dx) (y + dy) = true) ∧ ((di0_g (b0, x, y, R, k, p, r) (false, true, -k)).2.2.1 = true ↔ True ∧ ∀ dy, -k ≤ dy → dy < k + 1 → ∀ dx, -(k - max (-dy) dy) ≤ dx → dx < (k - max (-dy) dy) + 1 → memG R (x + dx) (y + dy) = true) := by
  refine run_val (step := di0_step (b0, x, y, R, k, p, r)) (Inv := fun v => ∃ (s1 a1 : Bool) (d : Int), v = (s1, a1, d) ∧ -k ≤ d ∧ d ≤ k + 1 ∧ (s1 = true ↔ False ∨ ∃ dy, -k ≤ dy ∧ dy < d ∧ ∃ dx, -(k - max (-dy) dy) ≤ dx ∧ dx < (k - max (-dy) dy) + 1 ∧ memG R (x + dx) (y + dy) = true) ∧ (a1 = true ↔ True ∧ ∀ dy, -k ≤ dy → dy < d → ∀ dx, -(k - max (-dy) dy) ≤ dx → dx < (k - max (-dy) dy) + 1 → memG R (x + dx) (y + dy) = true)) (μ := fun v => (k + 1 - v.2.2).toNat) (Q := fun t => t.1 = 0 ∧ (t.2.1 = true ↔ False ∨ ∃ dy, -k ≤ dy ∧ dy < k + 1 ∧ ∃ dx, -(k - max (-dy) dy) ≤ dx ∧ dx < (k - max (-dy) dy) + 1 ∧ memG R (x + dx) (y + dy) = true) ∧ (t.2.2.1 = true ↔ True ∧ ∀ dy, -k ≤ dy → dy < k + 1 → ∀ dx, -(k - max (-dy) dy) ≤ dx → dx < (k - max (-dy) dy) + 1 → memG R (x + dx) (y + dy) = true)) ?_ _ _ (Nat.lt_succ_self _) ⟨false, true, -k, rfl, by omega, by omega, ⟨(fun e => by cases e), fun e => e.elim False.elim fun ⟨z, z1, z2, _⟩ => absurd z2 (by omega)⟩, ⟨fun _ => ⟨trivial, fun z z1 z2 => absurd z2 (by omega)⟩, fun _ => rfl⟩⟩
  rintro v ⟨s1, a1, d, rfl, d0, d1, i1, i2⟩
  by_cases g : d ≤ k
  · skip
    have wd : IntKind.wrap IntKind.i64 (k - if IntKind.wrap IntKind.i64 ((0 : Int) - d) > d then IntKind.wrap IntKind.i64 ((0 : Int) - d) else d) = k - max (-d) d := by
      rw [wid (x := (0 : Int) - d) (by omega) (by omega)]
      have e : (if (0 : Int) - d > d then (0 : Int) - d else d) = max (-d) d := by split <;> omega
      rw [e, wid (by omega) (by omega)]
    obtain ⟨v1, v2, v3, v4⟩ := di1_run (b0 := b0) (o := k) (p := p) (r := r) (s := s1) (a := a1) (k := k - max (-d) d) h hx hy (show -6 ≤ d ∧ d ≤ 6 by omega) (by omega) (by omega)
    have w0 : IntKind.wrap IntKind.i64 ((0 : Int) - (k - max (-d) d)) = -(k - max (-d) d) := by rw [wid (by omega) (by omega)]; omega
    have w3 : IntKind.wrap IntKind.i64 (d + (1 : Int)) = d + 1 := wid (by omega) (by omega)
    refine ⟨.inl ((di1_g (b0, d, k - max (-d) d, x, y, R, k, p, r) (s1, a1, -(k - max (-d) d))).2.1, (di1_g (b0, d, k - max (-d) d, x, y, R, k, p, r) (s1, a1, -(k - max (-d) d))).2.2.1, d + 1), ?_, ⟨_, _, _, rfl, by omega, by omega, someP d0 i1 v3, allP d0 i2 v4⟩, by show (k + 1 - (d + 1)).toNat < (k + 1 - d).toNat; omega⟩
    simp only [di0_step, Tr.val, decide_eq_true g, wd, w0, w3, v1, v2, Nat.beq, cond_true]
  · have : d = k + 1 := by omega
    subst this
    exact ⟨.inr (0, (s1, a1, k + 1)), by simp only [di0_step, Tr.val, decide_eq_false g, cond_false], rfl, i1, i2⟩
theorem some_d {R : Rg} {k x y : Int} {b : Bool} (hc : (chkE R k != (0 : Int)) = false) (hb : b = true ↔ False ∨ ∃ dy, -k ≤ dy ∧ dy < k + 1 ∧ ∃ dx, -(k - max (-dy) dy) ≤ dx ∧ dx < (k - max (-dy) dy) + 1 ∧ memG R (x + dx) (y + dy) = true) : memG (dcG R k) x y = b := by
  obtain ⟨k0, k1, h, hf, _⟩ := chk_ok hc
  rw [Bool.eq_iff_iff, hb, dc_eq h k0 k1 hf, dmG_mem true h k0 k1 (fun _ => hf)]
  constructor
  · rintro ⟨dx, dy, d1, q⟩
    unfold dia at d1
    exact .inr ⟨dy, by omega, by omega, dx, by omega, by omega, q⟩
  · rintro (q | ⟨dy, d1, d2, dx, d3, d4, q⟩)
    · exact q.elim
    · exact ⟨dx, dy, by unfold dia; omega, q⟩
theorem all_d {R : Rg} {k x y : Int} {b : Bool} (h : valG R) (k0 : 0 ≤ k) (k1 : k ≤ 64) (hb : b = true ↔ True ∧ ∀ dy, -k ≤ dy → dy < k + 1 → ∀ dx, -(k - max (-dy) dy) ≤ dx → dx < (k - max (-dy) dy) + 1 → memG R (x + dx) (y + dy) = true) : memG (ecG R k) x y = b := by
  rw [Bool.eq_iff_iff, hb, ec_eq h k0 k1, dmG_mem false h k0 k1 (fun e => by cases e)]
  constructor
  · intro q
    exact ⟨trivial, fun dy d1 d2 dx d3 d4 => q dx dy (by unfold dia; omega)⟩
  · rintro ⟨_, q⟩ dx dy d1
    unfold dia at d1
    exact q dy (by omega) (by omega) dx (by omega) (by omega)
set_option maxRecDepth 100000 in
theorem law_MorphDiamonds_tree (R : (Ty.list (.prod (.int .i64) (.list (.prod (.int .i64) (.int .i64))))).den) (k : Int) (cx : Int) (cy : Int) : evalF Try.prog moJ_S53 (opens []) moJ_L55 9 11 [.ag [.d false false (.prod (.int .i64) (.list (.prod (.int .i64) (.int .i64)))) R, .v false (.int .i64 k), .v false (.int .i64 cx), .v false (.int .i64 cy)]] = .br (((szG R) && (bif hvG R then true else ((szG R) && (bif bif bif bif bif bif bif !valGB R then true else decide (k < (0 : Int)) then true else decide (k > (6 : Int)) then true else decide (cx < (-5000 : Int)) then true else decide (cx > (5000 : Int)) then true else decide (cy < (-5000 : Int)) then true else decide (cy > (5000 : Int)) then true else ((di0_cond (false, cx, cy, R, k, cx, cy) (false, true, IntKind.wrap IntKind.i64 ((0 : Int) - k))) && ((Nat.beq (Prod.fst (di0_g (false, cx, cy, R, k, cx, cy) (false, true, IntKind.wrap IntKind.i64 ((0 : Int) - k)))) (0 : Nat)) && ((szG R) && (bif chkE R k != (0 : Int) then ((szG R) && (szG (ecG R k))) else ((szG (dcG R k)) && (bif (valGB (dcG R k) && memG (dcG R k) cx cy) == Prod.fst (Prod.snd (di0_g (false, cx, cy, R, k, cx, cy) (false, true, IntKind.wrap IntKind.i64 ((0 : Int) - k)))) then ((szG R) && (szG (ecG R k))) else true))))))))))) (.ret (.one (.v false (.bool (bif hvG R then true else bif bif bif bif bif bif bif !valGB R then true else decide (k < (0 : Int)) then true else decide (k > (6 : Int)) then true else decide (cx < (-5000 : Int)) then true else decide (cx > (5000 : Int)) then true else decide (cy < (-5000 : Int)) then true else decide (cy > (5000 : Int)) then true else bif chkE R k != (0 : Int) then bif (valGB (ecG R k) && memG (ecG R k) cx cy) == Prod.fst (Prod.snd (Prod.snd (di0_g (false, cx, cy, R, k, cx, cy) (false, true, IntKind.wrap IntKind.i64 ((0 : Int) - k))))) then true else false else bif (valGB (dcG R k) && memG (dcG R k) cx cy) == Prod.fst (Prod.snd (di0_g (false, cx, cy, R, k, cx, cy) (false, true, IntKind.wrap IntKind.i64 ((0 : Int) - k)))) then bif (valGB (ecG R k) && memG (ecG R k) cx cy) == Prod.fst (Prod.snd (Prod.snd (di0_g (false, cx, cy, R, k, cx, cy) (false, true, IntKind.wrap IntKind.i64 ((0 : Int) - k))))) then true else false else false))))) (.bad 116) := by kernel_rfl
set_option maxHeartbeats 4000000 in
theorem law_MorphDiamonds_all (R : (Ty.list (.prod (.int .i64) (.list (.prod (.int .i64) (.int .i64))))).den) (k : Int) (cx : Int) (cy : Int) (r0 : Ty.InR (.prod (.list (.prod (.int .i64) (.list (.prod (.int .i64) (.int .i64))))) (.prod (.int .i64) (.prod (.int .i64) (.int .i64)))) (R, (k, (cx, cy))))  : Tr.all (fun r => ∃ kn, r = AV.one (.v kn (.bool true))) (.br (((szG R) && (bif hvG R then true else ((szG R) && (bif bif bif bif bif bif bif !valGB R then true else decide (k < (0 : Int)) then true else decide (k > (6 : Int)) then true else decide (cx < (-5000 : Int)) then true else decide (cx > (5000 : Int)) then true else decide (cy < (-5000 : Int)) then true else decide (cy > (5000 : Int)) then true else ((di0_cond (false, cx, cy, R, k, cx, cy) (false, true, IntKind.wrap IntKind.i64 ((0 : Int) - k))) && ((Nat.beq (Prod.fst (di0_g (false, cx, cy, R, k, cx, cy) (false, true, IntKind.wrap IntKind.i64 ((0 : Int) - k)))) (0 : Nat)) && ((szG R) && (bif chkE R k != (0 : Int) then ((szG R) && (szG (ecG R k))) else ((szG (dcG R k)) && (bif (valGB (dcG R k) && memG (dcG R k) cx cy) == Prod.fst (Prod.snd (di0_g (false, cx, cy, R, k, cx, cy) (false, true, IntKind.wrap IntKind.i64 ((0 : Int) - k)))) then ((szG R) && (szG (ecG R k))) else true))))))))))) (.ret (.one (.v false (.bool (bif hvG R then true else bif bif bif bif bif bif bif !valGB R then true else decide (k < (0 : Int)) then true else decide (k > (6 : Int)) then true else decide (cx < (-5000 : Int)) then true else decide (cx > (5000 : Int)) then true else decide (cy < (-5000 : Int)) then true else decide (cy > (5000 : Int)) then true else bif chkE R k != (0 : Int) then bif (valGB (ecG R k) && memG (ecG R k) cx cy) == Prod.fst (Prod.snd (Prod.snd (di0_g (false, cx, cy, R, k, cx, cy) (false, true, IntKind.wrap IntKind.i64 ((0 : Int) - k))))) then true else false else bif (valGB (dcG R k) && memG (dcG R k) cx cy) == Prod.fst (Prod.snd (di0_g (false, cx, cy, R, k, cx, cy) (false, true, IntKind.wrap IntKind.i64 ((0 : Int) - k)))) then bif (valGB (ecG R k) && memG (ecG R k) cx cy) == Prod.fst (Prod.snd (Prod.snd (di0_g (false, cx, cy, R, k, cx, cy) (false, true, IntKind.wrap IntKind.i64 ((0 : Int) - k))))) then true else false else false))))) (.bad 116)) := by
  obtain ⟨K, rfl⟩ : ∃ K : Rg, K = R := ⟨R, rfl⟩
  have sR : szG K = true := inr_sz r0.1
  cases hA : hvG K
  rotate_left
  · simp only [sR, Bool.and_self, cond_true]
    exact ⟨fun _ => ⟨_, rfl⟩, fun h => by cases h⟩
  cases hv : valGB K
  · simp only [sR, Bool.not_false, Bool.and_self, cond_true, cond_false]
    exact ⟨fun _ => ⟨_, rfl⟩, fun h => by cases h⟩
  by_cases h0 : k < (0 : Int)
  · have d0 : decide (k < (0 : Int)) = true := decide_eq_true h0
    simp only [sR, hA, hv,  d0, Bool.not_true, Bool.and_self, cond_true, cond_false]
    exact ⟨fun _ => ⟨_, rfl⟩, fun h => by cases h⟩
  have d0 : decide (k < (0 : Int)) = false := decide_eq_false h0
  by_cases h1 : k > (6 : Int)
  · have d1 : decide (k > (6 : Int)) = true := decide_eq_true h1
    simp only [sR, hA, hv, d0,  d1, Bool.not_true, Bool.and_self, cond_true, cond_false]
    exact ⟨fun _ => ⟨_, rfl⟩, fun h => by cases h⟩
  have d1 : decide (k > (6 : Int)) = false := decide_eq_false h1
  by_cases h2 : cx < (-5000 : Int)
  · have d2 : decide (cx < (-5000 : Int)) = true := decide_eq_true h2
    simp only [sR, hA, hv, d0, d1,  d2, Bool.not_true, Bool.and_self, cond_true, cond_false]
    exact ⟨fun _ => ⟨_, rfl⟩, fun h => by cases h⟩
  have d2 : decide (cx < (-5000 : Int)) = false := decide_eq_false h2
  by_cases h3 : cx > (5000 : Int)
  · have d3 : decide (cx > (5000 : Int)) = true := decide_eq_true h3
    simp only [sR, hA, hv, d0, d1, d2,  d3, Bool.not_true, Bool.and_self, cond_true, cond_false]
    exact ⟨fun _ => ⟨_, rfl⟩, fun h => by cases h⟩
  have d3 : decide (cx > (5000 : Int)) = false := decide_eq_false h3
  by_cases h4 : cy < (-5000 : Int)
  · have d4 : decide (cy < (-5000 : Int)) = true := decide_eq_true h4
    simp only [sR, hA, hv, d0, d1, d2, d3,  d4, Bool.not_true, Bool.and_self, cond_true, cond_false]
    exact ⟨fun _ => ⟨_, rfl⟩, fun h => by cases h⟩
  have d4 : decide (cy < (-5000 : Int)) = false := decide_eq_false h4
  by_cases h5 : cy > (5000 : Int)
  · have d5 : decide (cy > (5000 : Int)) = true := decide_eq_true h5
    simp only [sR, hA, hv, d0, d1, d2, d3, d4,  d5, Bool.not_true, Bool.and_self, cond_true, cond_false]
    exact ⟨fun _ => ⟨_, rfl⟩, fun h => by cases h⟩
  have d5 : decide (cy > (5000 : Int)) = false := decide_eq_false h5
  have h := valGB_iff.1 hv
  have w0 : IntKind.wrap IntKind.i64 ((0 : Int) - k) = -k := by rw [wid (by omega) (by omega)]; omega
  obtain ⟨v1, v2, v3, v4⟩ := di0_run (b0 := false) (p := cx) (r := cy) (x := cx) (y := cy) (k := k) h (by omega) (by omega) (by omega) (by omega)
  have e2 := all_d h (by omega) (by omega) v4
  have q1 : valGB (dcG K k) = true := valGB_t (dc_val K k)
  have q2 : valGB (ecG K k) = true := valGB_t (ec_val K k)
  have q3 : szG (dcG K k) = true := sz_dc K k
  have q4 : szG (ecG K k) = true := sz_ec K k
  rw [w0]
  cases hc : chkE K k != (0 : Int)
  · have e1 := some_d hc v3
    simp only [sR, q1, q2, q3, q4, d0, d1, d2, d3, d4, d5,  v1, v2, e1, e2, Nat.beq, beq_self_eq_true, Bool.not_true, Bool.and_self, Bool.true_and, cond_true, cond_false]
    exact ⟨fun _ => ⟨_, rfl⟩, fun h => by cases h⟩
  · simp only [sR, q1, q2, q3, q4, d0, d1, d2, d3, d4, d5,  v1, v2, e2, Nat.beq, beq_self_eq_true, Bool.not_true, Bool.and_self, Bool.true_and, cond_true, cond_false]
    exact ⟨fun _ => ⟨_, rfl⟩, fun h => by cases h⟩
set_option maxHeartbeats 4000000 in
theorem law_MorphDiamonds (v0 : Value) (x0 : ((.prod (.list (.prod (.int .i64) (.list (.prod (.int .i64) (.int .i64))))) (.prod (.int .i64) (.prod (.int .i64) (.int .i64)))) : Ty).den) (r0 : Ty.InR (.prod (.list (.prod (.int .i64) (.list (.prod (.int .i64) (.int .i64))))) (.prod (.int .i64) (.prod (.int .i64) (.int .i64)))) x0) (z_w : World) (i0 : (AV.ag (Ty.cells false (.prod (.list (.prod (.int .i64) (.list (.prod (.int .i64) (.int .i64))))) (.prod (.int .i64) (.prod (.int .i64) (.int .i64)))) x0)).is [] (fun _ => none) (fun b => b < z_w.heap.size) z_w v0) : Calls Try.prog 11 #[v0] z_w fun e w' => e = .returned (.bool true) ∧ Ext z_w w' := by
  obtain ⟨R, ⟨k, ⟨cx, cy⟩⟩⟩ := x0
  refine law_of_tree (by kernel_rfl) (moJ_S53_ok) (moJ_L55_ok) (law_MorphDiamonds_tree R k cx cy) (law_MorphDiamonds_all R k cx cy r0 ) rfl z_w _ _ (fun _ h => h) ⟨_, _, rfl, i0, rfl⟩
end Go.Proofs.Ytdoodmapmhibhaa
