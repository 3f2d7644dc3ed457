/-
  Layer 20: which cells a region contains.
-/
import Derived.Test.YtacgchandefjgaaProg
import Derived.Test.YtacgchandefjgaaFvX
import Derived.Test.YtacgchandefjgaaFvZ
import Derived.Test.YtacgchandefjgaaAut
import Derived.Test.YtacgchandefjgaaRd
import Derived.Test.YtacgchandefjgaaPl
import Derived.Test.YtacgchandefjgaaScn
import Derived.Test.YtacgchandefjgaaMor
import Derived.Test.YtacgchandefjgaaRgB
import Derived.Test.YtacgchandefjgaaRgC
import Derived.Test.YtacgchandefjgaaRgD
import Derived.Test.YtacgchandefjgaaMoB
import Derived.Test.YtacgchandefjgaaMoC
import Derived.Test.YtacgchandefjgaaMoD
namespace Go.Proofs.Ytacgchandefjgaa
open Go
theorem half_w {i j : Nat} (h : i + j ≤ 4611686018427387904) : IntKind.wrap .i64 (Int.fdiv (IntKind.wrap IntKind.u64 (IntKind.wrap .i64 ((i : Int) + (j : Int)))) ((2 : Int) ^ min (Int.toNat (1 : Int)) (IntKind.bits IntKind.u64))) = (((i + j) / 2 : Nat) : Int) := by
  have e2 : (2 : Int) ^ min (Int.toNat (1 : Int)) (IntKind.bits IntKind.u64) = 2 := by kernel_rfl
  rw [wid (x := (i : Int) + (j : Int)) (by omega) (by omega), IntWalk.u64_in _ ⟨by omega, by omega⟩, e2, Int.fdiv_eq_ediv_of_nonneg _ (by omega), wid (by omega) (by omega)]
  omega
def cmpI (a y : Int) : Int := bif decide (a < y) then -1 else bif decide (a > y) then 1 else 0
noncomputable def row_St (u : ctb0_U) (v : inn_U) : Stt := ⟨[.one .junk, .one (.v false (.int .i64 u.1)), .one (.p 0 0), .one .junk, .one (.d false false (.prod (.int .i64) (.int .i64)) v.1), .one (.v false (.int .i64 v.2)), .one .junk, .one .junk, .one .junk, .one .junk, .one .junk, .one .junk, .one .junk, .one .junk, .one .junk, .one .junk, .one .junk, .one .junk, .one .junk, .one .junk, .one .junk, .one .junk, .one .junk, .one .junk, .one .junk, .one .junk, .one .junk], [(0, .cells [.d false false (.prod (.int .i64) (.list (.prod (.int .i64) (.int .i64)))) u.2])], 1003⟩
noncomputable def row_step (u : ctb0_U) (v : inn_U) : Tr (inn_U ⊕ (Nat × inn_U)) :=
  match u, v with
  | (q0, q3), (q1, q2) => .br (decide (q2 < (↑(List.length q3) : Int))) (.br (decide ((0 : Int) ≤ q2) && decide (q2 < (↑(List.length q3) : Int))) (.br (Prod.fst (el_ilii q3 q2) == q0) (.br (decide ((0 : Int) ≤ q2) && decide (q2 < (↑(List.length q3) : Int))) (.ret (.inr (0, (Prod.snd (el_ilii q3 q2), q2)))) (.bad 29)) (.ret (.inl (q1, IntKind.wrap .i64 (q2 + (1 : Int)))))) (.bad 29)) (.ret (.inr (1, (q1, q2))))
set_option maxRecDepth 100000 in
set_option maxHeartbeats 4000000 in
theorem row_step_eq : ∀ (u : ctb0_U) (v : inn_U), (evalC Try.prog (evalB Try.prog moD_S58 (opens []) moD_L55 7).1 (evalB Try.prog moD_S58 (opens []) moD_L55 7).2 (opens []) (moD_L55 60) 100000 (0 :: [0, 1, 0, 1]) (loopOf (bodyOf Try.prog 60) [1, 0, 1, 0]) (row_St u v) []).bind (finF [0, 3, 6, 7, 8, 9, 10, 11, 12, 13, 14, 15, 16, 17, 18, 19, 20, 21, 22, 23, 24, 25, 26] [⟨100004, some 4, 0, 0, 0, (.prod (.int .i64) (.int .i64))⟩] [0] [] 1003) = (row_step u v).bind (outA (row_St u) [.ret, .exit 0]) := by
  rintro ⟨q0, q3⟩ ⟨q1, q2⟩
  kernel_rfl
noncomputable def row_rd (b : Bool) (o1 : Option AV) (o2 : Option AV) (o4 : Option AV) (o5 : Option AV) (own : Own) : Option (ctb0_U × inn_U) := zrT b <| zrO o1 fun za1 => zrA1 za1 fun zc2 => zrI .i64 zc2 fun q0 => zrO o2 fun za3 => zrA1 za3 fun zc4 => zrP 0 0 zc4 <| zrO o4 fun za5 => zrA1 za5 fun zc6 => zrD (.prod (.int .i64) (.int .i64)) zc6 fun q1 => zrO o5 fun za7 => zrA1 za7 fun zc8 => zrI .i64 zc8 fun q2 => zrL own fun zq9 zw10 => zrKey 0 zq9 fun zk11 => zrC zk11 fun zl12 => zrL zl12 fun zc13 zr14 => zrD (.prod (.int .i64) (.list (.prod (.int .i64) (.int .i64)))) zc13 fun q3 => zrN zr14 <| zrN zw10 <| some ((q0, q3), (q1, q2))
noncomputable def row_can (st : Stt) : Stt := canA [0, 3, 6, 7, 8, 9, 10, 11, 12, 13, 14, 15, 16, 17, 18, 19, 20, 21, 22, 23, 24, 25, 26] [⟨100004, some 4, 0, 0, 0, (.prod (.int .i64) (.int .i64))⟩] [0] [] 1003 st
noncomputable def row_cok (st : Stt) : Bool := canAok [0, 3, 6, 7, 8, 9, 10, 11, 12, 13, 14, 15, 16, 17, 18, 19, 20, 21, 22, 23, 24, 25, 26] [⟨100004, some 4, 0, 0, 0, (.prod (.int .i64) (.int .i64))⟩] [0] [] 1003 st
noncomputable def row_read (st : Stt) : Option (ctb0_U × inn_U) := row_rd (row_cok st && (staysA [⟨100004, some 4, 0, 0, 0, (.prod (.int .i64) (.int .i64))⟩] [0] st.own && juAll [0, 3, 6, 7, 8, 9, 10, 11, 12, 13, 14, 15, 16, 17, 18, 19, 20, 21, 22, 23, 24, 25, 26] (row_can st).tm 27)) (row_can st).tm[1]? (row_can st).tm[2]? (row_can st).tm[4]? (row_can st).tm[5]? (row_can st).own
set_option maxRecDepth 100000 in
set_option maxHeartbeats 4000000 in
theorem row_rd_ok {b : Bool} {tm : List AV} {own : Own} {u : ctb0_U} {v : inn_U} (hj : b = true → juAll [0, 3, 6, 7, 8, 9, 10, 11, 12, 13, 14, 15, 16, 17, 18, 19, 20, 21, 22, 23, 24, 25, 26] tm 27 = true) (h : row_rd b tm[1]? tm[2]? tm[4]? tm[5]? own = some (u, v)) : b = true ∧ tm = (row_St u v).tm ∧ own = (row_St u v).own := by
  unfold row_rd at h
  obtain ⟨rfl, h0⟩ := zrT_some h
  obtain ⟨za1, e1, h1⟩ := zrO_some h0
  obtain ⟨zc2, rfl, h2⟩ := zrA1_some h1
  obtain ⟨q0, rfl, h3⟩ := zrI_some h2
  obtain ⟨za3, e2, h4⟩ := zrO_some h3
  obtain ⟨zc4, rfl, h5⟩ := zrA1_some h4
  obtain ⟨rfl, h6⟩ := zrP_some h5
  obtain ⟨za5, e4, h7⟩ := zrO_some h6
  obtain ⟨zc6, rfl, h8⟩ := zrA1_some h7
  obtain ⟨q1, rfl, h9⟩ := zrD_some h8
  obtain ⟨za7, e5, h10⟩ := zrO_some h9
  obtain ⟨zc8, rfl, h11⟩ := zrA1_some h10
  obtain ⟨q2, rfl, h12⟩ := zrI_some h11
  obtain ⟨zq9, zw10, rfl, h13⟩ := zrL_some h12
  obtain ⟨zk11, rfl, h14⟩ := zrKey_some h13
  obtain ⟨zl12, rfl, h15⟩ := zrC_some h14
  obtain ⟨zc13, zr14, rfl, h16⟩ := zrL_some h15
  obtain ⟨q3, rfl, h17⟩ := zrD_some h16
  obtain ⟨rfl, h18⟩ := zrN_some h17
  obtain ⟨rfl, h19⟩ := zrN_some h18
  have h := Option.some.inj h19
  have hu := congrArg Prod.fst h
  have hv := congrArg Prod.snd h
  dsimp only at hu hv
  subst hu
  subst hv
  exact ⟨rfl, (tm_fill (hj rfl) (Lv := [(1, .one (.v false (.int .i64 q0))), (2, .one (.p 0 0)), (4, .one (.d false false (.prod (.int .i64) (.int .i64)) q1)), (5, .one (.v false (.int .i64 q2)))]) (by kernel_rfl) ⟨e1, e2, e4, e5, trivial⟩).trans (by kernel_rfl), rfl⟩
theorem row_read_ok (st : Stt) (u : ctb0_U) (v : inn_U) (h : row_read st = some (u, v)) : row_cok st = true ∧ staysA [⟨100004, some 4, 0, 0, 0, (.prod (.int .i64) (.int .i64))⟩] [0] st.own = true ∧ row_can st = row_St u v := by
  obtain ⟨h1, h2, h3⟩ := row_rd_ok (fun hb => by rw [Bool.and_eq_true, Bool.and_eq_true] at hb; exact hb.2.2) h
  rw [Bool.and_eq_true, Bool.and_eq_true] at h1
  refine ⟨h1.1, h1.2.1, ?_⟩
  have e : row_can st = ⟨(row_can st).tm, (row_can st).own, 1003⟩ := by kernel_rfl
  rw [e, h2, h3]
  rfl
noncomputable def row_cond (u : ctb0_U) (v : inn_U) : Bool := runC (row_step u) v
noncomputable def row_g (u : ctb0_U) (v : inn_U) : Nat × inn_U := runG (row_step u) v
theorem row_hg : ∀ (u : ctb0_U) (v : inn_U), row_cond u v = true → loopN (row_step u) ((fun u v => runF (row_step u) v) u v) v = some (row_g u v) := by
  exact fun u v h => run_hg h
noncomputable def row_m (st : Stt) : Option (Tr (Ex × Stt)) := sumM row_read row_cond row_St row_g [(0, .ret), (1, .exit 0)] st
noncomputable def moH_L51 : FuncId → Loops := addL 60 [0, 1, 0, 1] row_m moD_L55
set_option maxRecDepth 100000 in
set_option maxHeartbeats 4000000 in
theorem moH_L51_ok : LoopsOK Try.prog moH_L51 :=
  loop_sumF (body := (bodyOf Try.prog 60)) (c := (loopOf (bodyOf Try.prog 60) [1, 0, 1, 0])) (kinds := [.ret, .exit 0]) (allow := [(0, .ret), (1, .exit 0)]) (St := row_St) (step := row_step) (W := [0, 3, 6, 7, 8, 9, 10, 11, 12, 13, 14, 15, 16, 17, 18, 19, 20, 21, 22, 23, 24, 25, 26]) (As := [⟨100004, some 4, 0, 0, 0, (.prod (.int .i64) (.int .i64))⟩]) (ks := [0]) (dd := []) (nx := 1003) (n := 100000) (g := row_g) (cond := row_cond) (fuel := (fun u v => runF (row_step u) v)) (read := row_read) (by kernel_rfl) (moD_S58_ok) (moD_L55_ok) 7 ⟨Try.f60, by kernel_rfl, by kernel_rfl⟩ (by kernel_rfl) (by kernel_rfl) (by kernel_rfl) row_step_eq row_hg row_read_ok
noncomputable def ctq_St (u : lna_U) (v : va_V) : Stt := ⟨[.one .junk, .one (.v false (.int .i64 u.1)), .one .junk, .one .junk, .one (.v false (.bool v.1)), .one .junk, .one .junk, .one .junk, .one .junk, .one .junk, .one (.d false false (.prod (.int .i64) (.int .i64)) u.2.1), .one (.v false (.int .i64 u.2.2)), .one (.v false (.int .i64 v.2)), .one .junk, .one .junk, .one .junk, .one .junk, .one .junk, .one .junk, .one .junk, .one .junk, .one .junk, .one .junk, .one .junk, .one .junk, .one .junk, .one .junk], [], 1007⟩
noncomputable def ctq_step (u : lna_U) (v : va_V) : Tr (va_V ⊕ (Nat × va_V)) :=
  match u, v with
  | (q0, q2, q3), (q1, q4) => .br (decide (q4 < q3)) (.br (decide ((0 : Int) ≤ q4) && decide (q4 < (↑(List.length q2) : Int))) (.br (bif decide (Prod.fst (el_ii q2 q4) ≤ q0) then decide (q0 < Prod.snd (el_ii q2 q4)) else false) (.ret (.inr (0, (true, q4)))) (.ret (.inl (q1, IntKind.wrap .i64 (q4 + (1 : Int)))))) (.bad 29)) (.ret (.inr (1, (q1, q4))))
set_option maxRecDepth 100000 in
set_option maxHeartbeats 4000000 in
theorem ctq_step_eq : ∀ (u : lna_U) (v : va_V), (evalC Try.prog (evalB Try.prog moD_S58 (opens []) moH_L51 7).1 (evalB Try.prog moD_S58 (opens []) moH_L51 7).2 (opens []) (moH_L51 71) 100000 (0 :: [0, 1, 0, 1, 1]) (loopOf (bodyOf Try.prog 71) [1, 1, 0, 1, 0]) (ctq_St u v) []).bind (finF [0, 2, 3, 5, 6, 7, 8, 9, 13, 14, 15, 16, 17, 18, 19, 20, 21, 22, 23, 24, 25, 26] [] [] [] 1007) = (ctq_step u v).bind (outA (ctq_St u) [.ret, .exit 0]) := by
  rintro ⟨q0, q2, q3⟩ ⟨q1, q4⟩
  kernel_rfl
noncomputable def ctq_rd (b : Bool) (o1 : Option AV) (o4 : Option AV) (o10 : Option AV) (o11 : Option AV) (o12 : Option AV) (own : Own) : Option (lna_U × va_V) := zrT b <| zrO o1 fun za1 => zrA1 za1 fun zc2 => zrI .i64 zc2 fun q0 => zrO o4 fun za3 => zrA1 za3 fun zc4 => zrB zc4 fun q1 => zrO o10 fun za5 => zrA1 za5 fun zc6 => zrD (.prod (.int .i64) (.int .i64)) zc6 fun q2 => zrO o11 fun za7 => zrA1 za7 fun zc8 => zrI .i64 zc8 fun q3 => zrO o12 fun za9 => zrA1 za9 fun zc10 => zrI .i64 zc10 fun q4 => zrN own <| some ((q0, q2, q3), (q1, q4))
noncomputable def ctq_can (st : Stt) : Stt := canA [0, 2, 3, 5, 6, 7, 8, 9, 13, 14, 15, 16, 17, 18, 19, 20, 21, 22, 23, 24, 25, 26] [] [] [] 1007 st
noncomputable def ctq_cok (st : Stt) : Bool := canAok [0, 2, 3, 5, 6, 7, 8, 9, 13, 14, 15, 16, 17, 18, 19, 20, 21, 22, 23, 24, 25, 26] [] [] [] 1007 st
noncomputable def ctq_read (st : Stt) : Option (lna_U × va_V) := ctq_rd (ctq_cok st && (staysA [] [] st.own && juAll [0, 2, 3, 5, 6, 7, 8, 9, 13, 14, 15, 16, 17, 18, 19, 20, 21, 22, 23, 24, 25, 26] (ctq_can st).tm 27)) (ctq_can st).tm[1]? (ctq_can st).tm[4]? (ctq_can st).tm[10]? (ctq_can st).tm[11]? (ctq_can st).tm[12]? (ctq_can st).own
set_option maxRecDepth 100000 in
set_option maxHeartbeats 4000000 in
theorem ctq_rd_ok {b : Bool} {tm : List AV} {own : Own} {u : lna_U} {v : va_V} (hj : b = true → juAll [0, 2, 3, 5, 6, 7, 8, 9, 13, 14, 15, 16, 17, 18, 19, 20, 21, 22, 23, 24, 25, 26] tm 27 = true) (h : ctq_rd b tm[1]? tm[4]? tm[10]? tm[11]? tm[12]? own = some (u, v)) : b = true ∧ tm = (ctq_St u v).tm ∧ own = (ctq_St u v).own := by
  unfold ctq_rd at h
  obtain ⟨rfl, h0⟩ := zrT_some h
  obtain ⟨za1, e1, h1⟩ := zrO_some h0
  obtain ⟨zc2, rfl, h2⟩ := zrA1_some h1
  obtain ⟨q0, rfl, h3⟩ := zrI_some h2
  obtain ⟨za3, e4, h4⟩ := zrO_some h3
  obtain ⟨zc4, rfl, h5⟩ := zrA1_some h4
  obtain ⟨q1, rfl, h6⟩ := zrB_some h5
  obtain ⟨za5, e10, h7⟩ := zrO_some h6
  obtain ⟨zc6, rfl, h8⟩ := zrA1_some h7
  obtain ⟨q2, rfl, h9⟩ := zrD_some h8
  obtain ⟨za7, e11, h10⟩ := zrO_some h9
  obtain ⟨zc8, rfl, h11⟩ := zrA1_some h10
  obtain ⟨q3, rfl, h12⟩ := zrI_some h11
  obtain ⟨za9, e12, h13⟩ := zrO_some h12
  obtain ⟨zc10, rfl, h14⟩ := zrA1_some h13
  obtain ⟨q4, rfl, h15⟩ := zrI_some h14
  obtain ⟨rfl, h16⟩ := zrN_some h15
  have h := Option.some.inj h16
  have hu := congrArg Prod.fst h
  have hv := congrArg Prod.snd h
  dsimp only at hu hv
  subst hu
  subst hv
  exact ⟨rfl, (tm_fill (hj rfl) (Lv := [(1, .one (.v false (.int .i64 q0))), (4, .one (.v false (.bool q1))), (10, .one (.d false false (.prod (.int .i64) (.int .i64)) q2)), (11, .one (.v false (.int .i64 q3))), (12, .one (.v false (.int .i64 q4)))]) (by kernel_rfl) ⟨e1, e4, e10, e11, e12, trivial⟩).trans (by kernel_rfl), rfl⟩
theorem ctq_read_ok (st : Stt) (u : lna_U) (v : va_V) (h : ctq_read st = some (u, v)) : ctq_cok st = true ∧ staysA [] [] st.own = true ∧ ctq_can st = ctq_St u v := by
  obtain ⟨h1, h2, h3⟩ := ctq_rd_ok (fun hb => by rw [Bool.and_eq_true, Bool.and_eq_true] at hb; exact hb.2.2) h
  rw [Bool.and_eq_true, Bool.and_eq_true] at h1
  refine ⟨h1.1, h1.2.1, ?_⟩
  have e : ctq_can st = ⟨(ctq_can st).tm, (ctq_can st).own, 1007⟩ := by kernel_rfl
  rw [e, h2, h3]
  rfl
noncomputable def ctq_cond (u : lna_U) (v : va_V) : Bool := runC (ctq_step u) v
noncomputable def ctq_g (u : lna_U) (v : va_V) : Nat × va_V := runG (ctq_step u) v
theorem ctq_hg : ∀ (u : lna_U) (v : va_V), ctq_cond u v = true → loopN (ctq_step u) ((fun u v => runF (ctq_step u) v) u v) v = some (ctq_g u v) := by
  exact fun u v h => run_hg h
noncomputable def ctq_m (st : Stt) : Option (Tr (Ex × Stt)) := sumM ctq_read ctq_cond ctq_St ctq_g [(0, .ret), (1, .exit 0)] st
noncomputable def moH_L52 : FuncId → Loops := addL 71 [0, 1, 0, 1, 1] ctq_m moH_L51
set_option maxRecDepth 100000 in
set_option maxHeartbeats 4000000 in
theorem moH_L52_ok : LoopsOK Try.prog moH_L52 :=
  loop_sumF (body := (bodyOf Try.prog 71)) (c := (loopOf (bodyOf Try.prog 71) [1, 1, 0, 1, 0])) (kinds := [.ret, .exit 0]) (allow := [(0, .ret), (1, .exit 0)]) (St := ctq_St) (step := ctq_step) (W := [0, 2, 3, 5, 6, 7, 8, 9, 13, 14, 15, 16, 17, 18, 19, 20, 21, 22, 23, 24, 25, 26]) (As := []) (ks := []) (dd := []) (nx := 1007) (n := 100000) (g := ctq_g) (cond := ctq_cond) (fuel := (fun u v => runF (ctq_step u) v)) (read := ctq_read) (by kernel_rfl) (moD_S58_ok) (moH_L51_ok) 7 ⟨Try.f71, by kernel_rfl, by kernel_rfl⟩ (by kernel_rfl) (by kernel_rfl) (by kernel_rfl) ctq_step_eq ctq_hg ctq_read_ok
theorem ctq_run {L : Rl} {x : Int} (hn : L.length ≤ 100000) : ctq_cond (x, L, (L.length : Int)) (false, 0) = true ∧ ((memB L x = false ∧ ctq_g (x, L, (L.length : Int)) (false, 0) = (1, (false, (L.length : Int)))) ∨ (memB L x = true ∧ ∃ j : Nat, ctq_g (x, L, (L.length : Int)) (false, 0) = (0, (true, (j : Int))))) := by
  obtain ⟨h1, h2⟩ := run_all (step := ctq_step (x, L, (L.length : Int))) (St := fun i => (false, (i : Int))) (Lv := fun i => (0, (true, (i : Int)))) (t := (1, (false, (L.length : Int)))) (l := L) (p := fun r => !(bif decide (r.1 ≤ x) then decide (x < r.2) else false)) (fun i hi => by
    simp only [ctq_step, Tr.val, lt_t hi, nn_t, el_r hi, wi1 hi (show (L.length : Int) ≤ 9223372036854775806 by omega), Bool.and_self, Bool.cond_self, cond_true]
    cases (bif decide (L[i].1 ≤ x) then decide (x < L[i].2) else false) <;> rfl) (by simp only [ctq_step, Tr.val, Int.lt_irrefl, decide_false, cond_false])
  refine ⟨h1, ?_⟩
  rw [memB_of _ rfl] at h2
  rcases h2 with ⟨h, h3⟩ | ⟨h, j, _, _, _, h4⟩
  · exact .inl ⟨by simpa using h, h3⟩
  · exact .inr ⟨by simpa using h, j, h4⟩
theorem row_run {R : Rg} {y : Int} (hn : R.length ≤ 100000) : row_cond (y, R) ([], 0) = true ∧ (((∀ r ∈ R, r.1 ≠ y) ∧ row_g (y, R) ([], 0) = (1, ([], (R.length : Int)))) ∨ (∃ j, ∃ hj : j < R.length, R[j].1 = y ∧ row_g (y, R) ([], 0) = (0, (R[j].2, (j : Int))))) := by
  obtain ⟨h1, h2⟩ := run_all (step := row_step (y, R)) (St := fun i => ([], (i : Int))) (Lv := fun i => (0, (Prod.snd (el_ilii R (i : Int)), (i : Int)))) (t := (1, ([], (R.length : Int)))) (l := R) (p := fun r => !(r.1 == y)) (fun i hi => by
    simp only [row_step, Tr.val, lt_t hi, nn_t, el_g hi, wi1 hi (show (R.length : Int) ≤ 9223372036854775806 by omega), Bool.and_self, Bool.cond_self, cond_true]
    cases (R[i].1 == y) <;> rfl) (by simp only [row_step, Tr.val, Int.lt_irrefl, decide_false, cond_false])
  refine ⟨h1, ?_⟩
  rcases h2 with ⟨h, h3⟩ | ⟨h, j, hj, h5, _, h4⟩
  · refine .inl ⟨fun r hr e => ?_, h3⟩
    have := List.all_eq_true.1 h r hr
    rw [e, beq_self_eq_true] at this; cases this
  · refine .inr ⟨j, hj, ?_, (show row_g (y, R) ([], 0) = (0, (Prod.snd (el_ilii R (j : Int)), (j : Int))) from h4).trans (by rw [el_g hj])⟩
    have : (R[j].1 == y) = true := by simpa using h5
    exact beq_iff_eq.1 this
set_option maxRecDepth 100000 in
theorem ctqc_tree (L : (Ty.list (.prod (.int .i64) (.int .i64))).den) (x : Int) : evalF Try.prog moD_S58 (opens []) moH_L52 9 71 [.one (.d false false (.prod (.int .i64) (.int .i64)) L), .one (.v false (.int .i64 x))] = .br (((decide ((↑(List.length L) : Int) ≤ (9223372036854775807 : Int))) && (bif !valB L then true else ((ctq_cond (x, L, (↑(List.length L) : Int)) (false, (0 : Int))) && (bif Nat.beq (Prod.fst (ctq_g (x, L, (↑(List.length L) : Int)) (false, (0 : Int)))) (0 : Nat) then true else (Nat.beq (Prod.fst (ctq_g (x, L, (↑(List.length L) : Int)) (false, (0 : Int)))) (1 : Nat))))))) (.ret (.one (.v false (.bool (bif !valB L then false else bif Nat.beq (Prod.fst (ctq_g (x, L, (↑(List.length L) : Int)) (false, (0 : Int)))) (0 : Nat) then Prod.fst (Prod.snd (ctq_g (x, L, (↑(List.length L) : Int)) (false, (0 : Int)))) else false))))) (.bad 116) := by kernel_rfl
theorem ctqc_val (L : (Ty.list (.prod (.int .i64) (.int .i64))).den) (x : Int) (hc : (decide (L.length ≤ 100000)) = true) : (.br (((decide ((↑(List.length L) : Int) ≤ (9223372036854775807 : Int))) && (bif !valB L then true else ((ctq_cond (x, L, (↑(List.length L) : Int)) (false, (0 : Int))) && (bif Nat.beq (Prod.fst (ctq_g (x, L, (↑(List.length L) : Int)) (false, (0 : Int)))) (0 : Nat) then true else (Nat.beq (Prod.fst (ctq_g (x, L, (↑(List.length L) : Int)) (false, (0 : Int)))) (1 : Nat))))))) (.ret (.one (.v false (.bool (bif !valB L then false else bif Nat.beq (Prod.fst (ctq_g (x, L, (↑(List.length L) : Int)) (false, (0 : Int)))) (0 : Nat) then Prod.fst (Prod.snd (ctq_g (x, L, (↑(List.length L) : Int)) (false, (0 : Int)))) else false))))) (.bad 116) : Tr AV).val = some (.one (.v false (.bool (valB L && memB L x)))) := by
  have hn := of_decide_eq_true hc
  have h9 : decide ((L.length : Int) ≤ 9223372036854775807) = true := decide_eq_true (by omega)
  obtain ⟨v1, v2⟩ := ctq_run (x := x) hn
  show cond _ _ _ = _
  cases hv : valB L
  · simp [h9, Tr.val]
  · rcases v2 with ⟨h, g⟩ | ⟨h, j, g⟩
    · simp [h9, v1, g, h, Nat.beq, Tr.val]
    · simp [h9, v1, g, h, Nat.beq, Tr.val]
noncomputable def ctqc_g : List AV → Option (Tr AV)
  | [.one (.d _ _ (.prod (.int .i64) (.int .i64)) L), .one (.v _ (.int .i64 x))] => some (.br (decide (L.length ≤ 100000)) (.ret (.one (.v false (.bool (valB L && memB L x))))) (.bad 900))
  | _ => none
set_option maxHeartbeats 4000000 in
theorem ctqc_ok : FunOK Try.prog 71 ctqc_g := by
  refine fun_ok (by kernel_rfl) (moD_S58_ok) (moH_L52_ok) 9 (On := (opens [])) (fun args t h => ?_)
  unfold ctqc_g at h
  split at h
  · rename_i _ _ L _ x
    simp only [Option.some.injEq] at h
    subst h
    refine ⟨[.one (.d false false (.prod (.int .i64) (.int .i64)) L), .one (.v false (.int .i64 x))], rfl, fun fr w us h => h, fun r hr => ?_⟩
    obtain ⟨hc, hr⟩ := br_bad hr
    simp only [Tr.val, Option.some.injEq] at hr
    subst hr
    rw [ctqc_tree]
    exact ctqc_val L x hc
  · cases h
noncomputable def moH_S53 : Sums := addS 71 ctqc_g moD_S58
theorem moH_S53_ok : SumOK Try.prog moH_S53 := addS_ok (ctqc_ok) (moD_S58_ok)
set_option maxRecDepth 100000 in
theorem cmp_tree (a : Int) (L : (Ty.list (.prod (.int .i64) (.int .i64))).den) (y : Int) : evalF Try.prog moH_S53 (opens []) moH_L52 9 69 [.ag [.v false (.int .i64 a), .d false false (.prod (.int .i64) (.int .i64)) L], .one (.v false (.int .i64 y))] = .ret (.one (.v false (.int .i64 (bif a != a then bif y != y then (0 : Int) else (-1 : Int) else bif y != y then (1 : Int) else bif decide (a < y) then (-1 : Int) else bif decide (a > y) then (1 : Int) else (0 : Int))))) := by kernel_rfl
set_option maxHeartbeats 4000000 in
theorem cmp_val (a : Int) (L : (Ty.list (.prod (.int .i64) (.int .i64))).den) (y : Int) : (.ret (.one (.v false (.int .i64 (bif a != a then bif y != y then (0 : Int) else (-1 : Int) else bif y != y then (1 : Int) else bif decide (a < y) then (-1 : Int) else bif decide (a > y) then (1 : Int) else (0 : Int))))) : Tr AV).val = some (.one (.v false (.int .i64 (cmpI a y)))) := by
  simp only [bne_self_eq_false, cond_false, Tr.val]
  rfl
noncomputable def cmp_g : List AV → Option (Tr AV)
  | [.ag [.v _ (.int .i64 a), .d _ _ (.prod (.int .i64) (.int .i64)) L], .one (.v _ (.int .i64 y))] => some (.ret (.one (.v false (.int .i64 (cmpI a y)))))
  | _ => none
set_option maxHeartbeats 4000000 in
theorem cmp_ok : FunOK Try.prog 69 cmp_g := by
  refine fun_ok (by kernel_rfl) (moH_S53_ok) (moH_L52_ok) 9 (On := (opens [])) (fun args t h => ?_)
  unfold cmp_g at h
  split at h
  · rename_i _ a _ _ L _ y
    simp only [Option.some.injEq] at h
    subst h
    refine ⟨[.ag [.v false (.int .i64 a), .d false false (.prod (.int .i64) (.int .i64)) L], .one (.v false (.int .i64 y))], rfl, fun fr w us h => h, fun r hr => ?_⟩
    simp only [Tr.val, Option.some.injEq] at hr
    subst hr
    rw [cmp_tree]
    exact cmp_val a L y
  · cases h
noncomputable def moH_S54 : Sums := addS 69 cmp_g moH_S53
theorem moH_S54_ok : SumOK Try.prog moH_S54 := addS_ok (cmp_ok) (moH_S53_ok)
abbrev bsf_U : Type := (Ty.list (.prod (.int .i64) (.list (.prod (.int .i64) (.int .i64))))).den × Int × Int × Bool × Int
noncomputable def bsf_St (u : bsf_U) (v : lna_V) : Stt := ⟨[.one (.d false false (.prod (.int .i64) (.list (.prod (.int .i64) (.int .i64)))) u.1), .one (.v false (.int .i64 u.2.1)), .one (.fn 69 []), .one .junk, .one .junk, .one .junk, .one (.v false (.int .i64 u.2.2.1)), .one (.v false (.bool u.2.2.2.1)), .one (.v false (.int .i64 u.2.2.2.2)), .one (.v false (.int .i64 v.1)), .one (.v false (.int .i64 v.2)), .one .junk, .one .junk, .one .junk, .one .junk, .one .junk, .one .junk, .one .junk, .one .junk, .one .junk, .one .junk, .one .junk, .one .junk, .one .junk, .one .junk, .one .junk, .one .junk, .one .junk, .one .junk, .one .junk, .one .junk, .one .junk, .one .junk, .one .junk, .one .junk, .one .junk, .one .junk, .one .junk, .one .junk, .one .junk, .one .junk, .one .junk, .one .junk, .one .junk, .one .junk, .one .junk, .one .junk, .one .junk, .one .junk], [], 1008⟩
noncomputable def bsf_step (u : bsf_U) (v : lna_V) : Tr (lna_V ⊕ (Nat × lna_V)) :=
  match u, v with
  | (q0, q1, _, _, _), (q5, q6) => .br (decide (q5 < q6)) (.br (decide ((0 : Int) ≤ IntKind.wrap .i64 (Int.fdiv (IntKind.wrap IntKind.u64 (IntKind.wrap .i64 (q5 + q6))) ((2 : Int) ^ min (Int.toNat (1 : Int)) (IntKind.bits IntKind.u64)))) && decide (IntKind.wrap .i64 (Int.fdiv (IntKind.wrap IntKind.u64 (IntKind.wrap .i64 (q5 + q6))) ((2 : Int) ^ min (Int.toNat (1 : Int)) (IntKind.bits IntKind.u64))) < (↑(List.length q0) : Int))) (.br (decide (cmpI (Prod.fst (el_ilii q0 (IntKind.wrap .i64 (Int.fdiv (IntKind.wrap IntKind.u64 (IntKind.wrap .i64 (q5 + q6))) ((2 : Int) ^ min (Int.toNat (1 : Int)) (IntKind.bits IntKind.u64)))))) q1 < (0 : Int))) (.ret (.inl (IntKind.wrap .i64 (IntKind.wrap .i64 (Int.fdiv (IntKind.wrap IntKind.u64 (IntKind.wrap .i64 (q5 + q6))) ((2 : Int) ^ min (Int.toNat (1 : Int)) (IntKind.bits IntKind.u64))) + (1 : Int)), q6))) (.ret (.inl (q5, IntKind.wrap .i64 (Int.fdiv (IntKind.wrap IntKind.u64 (IntKind.wrap .i64 (q5 + q6))) ((2 : Int) ^ min (Int.toNat (1 : Int)) (IntKind.bits IntKind.u64))))))) (.bad 29)) (.ret (.inr (0, (q5, q6))))
set_option maxRecDepth 100000 in
set_option maxHeartbeats 4000000 in
theorem bsf_step_eq : ∀ (u : bsf_U) (v : lna_V), (evalC Try.prog (evalB Try.prog moH_S54 (opens []) moH_L52 7).1 (evalB Try.prog moH_S54 (opens []) moH_L52 7).2 (opens []) (moH_L52 68) 100000 (0 :: [0, 0, 1, 1, 1]) (loopOf (bodyOf Try.prog 68) [1, 1, 1, 0, 0]) (bsf_St u v) []).bind (finF [3, 4, 5, 11, 12, 13, 14, 15, 16, 17, 18, 19, 20, 21, 22, 23, 24, 25, 26, 27, 28, 29, 30, 31, 32, 33, 34, 35, 36, 37, 38, 39, 40, 41, 42, 43, 44, 45, 46, 47, 48] [] [] [] 1008) = (bsf_step u v).bind (outA (bsf_St u) [.exit 0]) := by
  rintro ⟨q0, q1, q2, q3, q4⟩ ⟨q5, q6⟩
  kernel_rfl
noncomputable def bsf_rd (b : Bool) (o0 : Option AV) (o1 : Option AV) (o2 : Option AV) (o6 : Option AV) (o7 : Option AV) (o8 : Option AV) (o9 : Option AV) (o10 : Option AV) (own : Own) : Option (bsf_U × lna_V) := zrT b <| zrO o0 fun za1 => zrA1 za1 fun zc2 => zrD (.prod (.int .i64) (.list (.prod (.int .i64) (.int .i64)))) zc2 fun q0 => zrO o1 fun za3 => zrA1 za3 fun zc4 => zrI .i64 zc4 fun q1 => zrO o2 fun za5 => zrA1 za5 fun zc6 => zrF 69 [] zc6 <| zrO o6 fun za7 => zrA1 za7 fun zc8 => zrI .i64 zc8 fun q2 => zrO o7 fun za9 => zrA1 za9 fun zc10 => zrB zc10 fun q3 => zrO o8 fun za11 => zrA1 za11 fun zc12 => zrI .i64 zc12 fun q4 => zrO o9 fun za13 => zrA1 za13 fun zc14 => zrI .i64 zc14 fun q5 => zrO o10 fun za15 => zrA1 za15 fun zc16 => zrI .i64 zc16 fun q6 => zrN own <| some ((q0, q1, q2, q3, q4), (q5, q6))
noncomputable def bsf_can (st : Stt) : Stt := canA [3, 4, 5, 11, 12, 13, 14, 15, 16, 17, 18, 19, 20, 21, 22, 23, 24, 25, 26, 27, 28, 29, 30, 31, 32, 33, 34, 35, 36, 37, 38, 39, 40, 41, 42, 43, 44, 45, 46, 47, 48] [] [] [] 1008 st
noncomputable def bsf_cok (st : Stt) : Bool := canAok [3, 4, 5, 11, 12, 13, 14, 15, 16, 17, 18, 19, 20, 21, 22, 23, 24, 25, 26, 27, 28, 29, 30, 31, 32, 33, 34, 35, 36, 37, 38, 39, 40, 41, 42, 43, 44, 45, 46, 47, 48] [] [] [] 1008 st
noncomputable def bsf_read (st : Stt) : Option (bsf_U × lna_V) := bsf_rd (bsf_cok st && (staysA [] [] st.own && juAll [3, 4, 5, 11, 12, 13, 14, 15, 16, 17, 18, 19, 20, 21, 22, 23, 24, 25, 26, 27, 28, 29, 30, 31, 32, 33, 34, 35, 36, 37, 38, 39, 40, 41, 42, 43, 44, 45, 46, 47, 48] (bsf_can st).tm 49)) (bsf_can st).tm[0]? (bsf_can st).tm[1]? (bsf_can st).tm[2]? (bsf_can st).tm[6]? (bsf_can st).tm[7]? (bsf_can st).tm[8]? (bsf_can st).tm[9]? (bsf_can st).tm[10]? (bsf_can st).own
set_option maxRecDepth 100000 in
set_option maxHeartbeats 4000000 in
theorem bsf_rd_ok {b : Bool} {tm : List AV} {own : Own} {u : bsf_U} {v : lna_V} (hj : b = true → juAll [3, 4, 5, 11, 12, 13, 14, 15, 16, 17, 18, 19, 20, 21, 22, 23, 24, 25, 26, 27, 28, 29, 30, 31, 32, 33, 34, 35, 36, 37, 38, 39, 40, 41, 42, 43, 44, 45, 46, 47, 48] tm 49 = true) (h : bsf_rd b tm[0]? tm[1]? tm[2]? tm[6]? tm[7]? tm[8]? tm[9]? tm[10]? own = some (u, v)) : b = true ∧ tm = (bsf_St u v).tm ∧ own = (bsf_St u v).own := by
  unfold bsf_rd at h
  obtain ⟨rfl, h0⟩ := zrT_some h
  obtain ⟨za1, e0, h1⟩ := zrO_some h0
  obtain ⟨zc2, rfl, h2⟩ := zrA1_some h1
  obtain ⟨q0, rfl, h3⟩ := zrD_some h2
  obtain ⟨za3, e1, h4⟩ := zrO_some h3
  obtain ⟨zc4, rfl, h5⟩ := zrA1_some h4
  obtain ⟨q1, rfl, h6⟩ := zrI_some h5
  obtain ⟨za5, e2, h7⟩ := zrO_some h6
  obtain ⟨zc6, rfl, h8⟩ := zrA1_some h7
  obtain ⟨rfl, h9⟩ := zrF_some h8
  obtain ⟨za7, e6, h10⟩ := zrO_some h9
  obtain ⟨zc8, rfl, h11⟩ := zrA1_some h10
  obtain ⟨q2, rfl, h12⟩ := zrI_some h11
  obtain ⟨za9, e7, h13⟩ := zrO_some h12
  obtain ⟨zc10, rfl, h14⟩ := zrA1_some h13
  obtain ⟨q3, rfl, h15⟩ := zrB_some h14
  obtain ⟨za11, e8, h16⟩ := zrO_some h15
  obtain ⟨zc12, rfl, h17⟩ := zrA1_some h16
  obtain ⟨q4, rfl, h18⟩ := zrI_some h17
  obtain ⟨za13, e9, h19⟩ := zrO_some h18
  obtain ⟨zc14, rfl, h20⟩ := zrA1_some h19
  obtain ⟨q5, rfl, h21⟩ := zrI_some h20
  obtain ⟨za15, e10, h22⟩ := zrO_some h21
  obtain ⟨zc16, rfl, h23⟩ := zrA1_some h22
  obtain ⟨q6, rfl, h24⟩ := zrI_some h23
  obtain ⟨rfl, h25⟩ := zrN_some h24
  have h := Option.some.inj h25
  have hu := congrArg Prod.fst h
  have hv := congrArg Prod.snd h
  dsimp only at hu hv
  subst hu
  subst hv
  exact ⟨rfl, (tm_fill (hj rfl) (Lv := [(0, .one (.d false false (.prod (.int .i64) (.list (.prod (.int .i64) (.int .i64)))) q0)), (1, .one (.v false (.int .i64 q1))), (2, .one (.fn 69 [])), (6, .one (.v false (.int .i64 q2))), (7, .one (.v false (.bool q3))), (8, .one (.v false (.int .i64 q4))), (9, .one (.v false (.int .i64 q5))), (10, .one (.v false (.int .i64 q6)))]) (by kernel_rfl) ⟨e0, e1, e2, e6, e7, e8, e9, e10, trivial⟩).trans (by kernel_rfl), rfl⟩
theorem bsf_read_ok (st : Stt) (u : bsf_U) (v : lna_V) (h : bsf_read st = some (u, v)) : bsf_cok st = true ∧ staysA [] [] st.own = true ∧ bsf_can st = bsf_St u v := by
  obtain ⟨h1, h2, h3⟩ := bsf_rd_ok (fun hb => by rw [Bool.and_eq_true, Bool.and_eq_true] at hb; exact hb.2.2) h
  rw [Bool.and_eq_true, Bool.and_eq_true] at h1
  refine ⟨h1.1, h1.2.1, ?_⟩
  have e : bsf_can st = ⟨(bsf_can st).tm, (bsf_can st).own, 1008⟩ := by kernel_rfl
  rw [e, h2, h3]
  rfl
noncomputable def bsf_cond (u : bsf_U) (v : lna_V) : Bool := runC (bsf_step u) v
noncomputable def bsf_g (u : bsf_U) (v : lna_V) : Nat × lna_V := runG (bsf_step u) v
theorem bsf_hg : ∀ (u : bsf_U) (v : lna_V), bsf_cond u v = true → loopN (bsf_step u) ((fun u v => runF (bsf_step u) v) u v) v = some (bsf_g u v) := by
  exact fun u v h => run_hg h
noncomputable def bsf_m (st : Stt) : Option (Tr (Ex × Stt)) := sumM bsf_read bsf_cond bsf_St bsf_g [(0, .exit 0)] st
noncomputable def moH_L55 : FuncId → Loops := addL 68 [0, 0, 1, 1, 1] bsf_m moH_L52
set_option maxRecDepth 100000 in
set_option maxHeartbeats 4000000 in
theorem moH_L55_ok : LoopsOK Try.prog moH_L55 :=
  loop_sumF (body := (bodyOf Try.prog 68)) (c := (loopOf (bodyOf Try.prog 68) [1, 1, 1, 0, 0])) (kinds := [.exit 0]) (allow := [(0, .exit 0)]) (St := bsf_St) (step := bsf_step) (W := [3, 4, 5, 11, 12, 13, 14, 15, 16, 17, 18, 19, 20, 21, 22, 23, 24, 25, 26, 27, 28, 29, 30, 31, 32, 33, 34, 35, 36, 37, 38, 39, 40, 41, 42, 43, 44, 45, 46, 47, 48]) (As := []) (ks := []) (dd := []) (nx := 1008) (n := 100000) (g := bsf_g) (cond := bsf_cond) (fuel := (fun u v => runF (bsf_step u) v)) (read := bsf_read) (by kernel_rfl) (moH_S54_ok) (moH_L52_ok) 7 ⟨Try.f68, by kernel_rfl, by kernel_rfl⟩ (by kernel_rfl) (by kernel_rfl) (by kernel_rfl) bsf_step_eq bsf_hg bsf_read_ok
theorem cmpI_lt (a y : Int) : decide (cmpI a y < 0) = decide (a < y) := by
  unfold cmpI
  by_cases h : a < y
  · rw [decide_eq_true h]; rfl
  · rw [decide_eq_false h]
    cases decide (a > y) <;> rfl
theorem cmpI_eq (a y : Int) : (cmpI a y == 0) = decide (a = y) := by
  unfold cmpI
  by_cases h : a < y
  · rw [decide_eq_true h, decide_eq_false (show ¬ a = y by omega)]; rfl
  · by_cases g : a > y
    · rw [decide_eq_false h, decide_eq_true g, decide_eq_false (show ¬ a = y by omega)]; rfl
    · rw [decide_eq_false h, decide_eq_false g, decide_eq_true (show a = y by omega)]; rfl
theorem bsf_run {R : Rg} {y a c : Int} {b : Bool} (h : valG R) (hn : R.length ≤ 100000) : bsf_cond (R, y, a, b, c) (0, (R.length : Int)) = true ∧ ∃ i : Nat, i ≤ R.length ∧ (∀ k (hk : k < R.length), k < i → R[k].1 < y) ∧ (∀ k (hk : k < R.length), i ≤ k → y ≤ R[k].1) ∧ bsf_g (R, y, a, b, c) (0, (R.length : Int)) = (0, ((i : Int), (i : Int))) := by
  refine run_val (step := bsf_step (R, y, a, b, c)) (Inv := fun s => ∃ i j : Nat, s = ((i : Int), (j : Int)) ∧ i ≤ j ∧ j ≤ R.length ∧ (∀ k (hk : k < R.length), k < i → R[k].1 < y) ∧ (∀ k (hk : k < R.length), j ≤ k → y ≤ R[k].1)) (μ := fun s => s.2.toNat - s.1.toNat) (Q := fun t => ∃ i : Nat, i ≤ R.length ∧ (∀ k (hk : k < R.length), k < i → R[k].1 < y) ∧ (∀ k (hk : k < R.length), i ≤ k → y ≤ R[k].1) ∧ t = (0, ((i : Int), (i : Int)))) ?_ _ _ (Nat.lt_succ_self _) ⟨0, R.length, rfl, Nat.zero_le _, Nat.le_refl _, fun k _ hk => absurd hk (Nat.not_lt_zero _), fun k hk h2 => absurd hk (by omega)⟩
  rintro s ⟨i, j, rfl, hij, hj, lo, hi⟩
  by_cases g : i < j
  · have hw := half_w (i := i) (j := j) (by omega)
    have hm : (i + j) / 2 < R.length := by omega
    have w1 : IntKind.wrap .i64 ((((i + j) / 2 : Nat) : Int) + (1 : Int)) = (((i + j) / 2 + 1 : Nat) : Int) := by rw [wid (by omega) (by omega)]; omega
    by_cases gy : R[(i + j) / 2].1 < y
    · refine ⟨.inl ((((i + j) / 2 + 1 : Nat) : Int), (j : Int)), ?_, ⟨_, _, rfl, by omega, hj, fun k hk h2 => ?_, hi⟩, by show (j : Int).toNat - (((i + j) / 2 + 1 : Nat) : Int).toNat < (j : Int).toNat - (i : Int).toNat; omega⟩
      · simp only [bsf_step, Tr.val, lt_t g, hw, nn_t, lt_t hm, el_g hm, cmpI_lt, decide_eq_true gy, w1, Bool.and_self, cond_true]
      · by_cases e : k = (i + j) / 2
        · subst e; exact gy
        · have := ng_sort h k ((i + j) / 2) hk hm (by omega)
          omega
    · refine ⟨.inl ((i : Int), (((i + j) / 2 : Nat) : Int)), ?_, ⟨_, _, rfl, by omega, by omega, lo, fun k hk h2 => ?_⟩, by show (((i + j) / 2 : Nat) : Int).toNat - (i : Int).toNat < (j : Int).toNat - (i : Int).toNat; omega⟩
      · simp only [bsf_step, Tr.val, lt_t g, hw, nn_t, lt_t hm, el_g hm, cmpI_lt, decide_eq_false gy, Bool.and_self, cond_true, cond_false]
      · by_cases e : k = (i + j) / 2
        · subst e; omega
        · have := ng_sort h ((i + j) / 2) k hm hk (by omega)
          omega
  · have d : decide ((i : Int) < (j : Int)) = false := decide_eq_false (by omega)
    have : i = j := by omega
    subst this
    exact ⟨.inr (0, ((i : Int), (i : Int))), by simp only [bsf_step, Tr.val, d, cond_false], i, hj, lo, hi, rfl⟩
set_option maxRecDepth 100000 in
theorem r18c_tree (R : (Ty.list (.prod (.int .i64) (.list (.prod (.int .i64) (.int .i64))))).den) (x : Int) (y : Int) : evalF Try.prog moH_S54 (opens []) moH_L55 9 36 [.ag [.d false false (.prod (.int .i64) (.list (.prod (.int .i64) (.int .i64)))) R], .ag [.v false (.int .i64 x), .v false (.int .i64 y)]] = .br (((szG R) && (bif valGB R then ((((row_cond (y, R) ([], (0 : Int))) && (bif Nat.beq (Prod.fst (row_g (y, R) ([], (0 : Int)))) (0 : Nat) then true else (Nat.beq (Prod.fst (row_g (y, R) ([], (0 : Int)))) (1 : Nat))))) && (decide (List.length (bif Nat.beq (Prod.fst (row_g (y, R) ([], (0 : Int)))) (0 : Nat) then Prod.fst (Prod.snd (row_g (y, R) ([], (0 : Int)))) else []) ≤ (100000 : Nat)))) else true))) (.ret (.one (.v false (.bool (bif valGB R then memB (bif Nat.beq (Prod.fst (row_g (y, R) ([], (0 : Int)))) (0 : Nat) then Prod.fst (Prod.snd (row_g (y, R) ([], (0 : Int)))) else []) x else false))))) (.bad 116) := by kernel_rfl
theorem r18c_val (R : (Ty.list (.prod (.int .i64) (.list (.prod (.int .i64) (.int .i64))))).den) (x : Int) (y : Int) (hc : (szG R) = true) : (.br (((szG R) && (bif valGB R then ((((row_cond (y, R) ([], (0 : Int))) && (bif Nat.beq (Prod.fst (row_g (y, R) ([], (0 : Int)))) (0 : Nat) then true else (Nat.beq (Prod.fst (row_g (y, R) ([], (0 : Int)))) (1 : Nat))))) && (decide (List.length (bif Nat.beq (Prod.fst (row_g (y, R) ([], (0 : Int)))) (0 : Nat) then Prod.fst (Prod.snd (row_g (y, R) ([], (0 : Int)))) else []) ≤ (100000 : Nat)))) else true))) (.ret (.one (.v false (.bool (bif valGB R then memB (bif Nat.beq (Prod.fst (row_g (y, R) ([], (0 : Int)))) (0 : Nat) then Prod.fst (Prod.snd (row_g (y, R) ([], (0 : Int)))) else []) x else false))))) (.bad 116) : Tr AV).val = some (.one (.v false (.bool (valGB R && memG R x y)))) := by
  obtain ⟨K, rfl⟩ : ∃ K : Rg, K = R := ⟨R, rfl⟩
  have hs : szG K = true := hc
  show cond _ _ _ = _
  cases hv : valGB K
  · simp only [hs, Bool.and_self, cond_true, cond_false, Bool.false_and, Tr.val]
  · have h := valGB_iff.1 hv
    have hl := ng_len h (by omega)
    obtain ⟨v1, v2⟩ := row_run (R := K) (y := y) (by omega)
    rcases v2 with ⟨hn, g⟩ | ⟨j, hj, e, g⟩
    · have z : decide (([] : Rl).length ≤ 100000) = true := rfl
      rw [memG_no hn]
      simp only [hs, v1, g, z, Nat.beq, Bool.and_self, Bool.and_false, cond_true, cond_false, Tr.val]
      rfl
    · subst e
      have hr := row_len (Ng.rows h _ (List.getElem_mem hj))
      have z : decide (K[j].2.length ≤ 100000) = true := decide_eq_true (by omega)
      rw [memG_at h _ (List.getElem_mem hj)]
      simp only [hs, v1, g, z, Nat.beq, Bool.and_self, Bool.true_and, cond_true, cond_false, Tr.val]
noncomputable def r18c_g : List AV → Option (Tr AV)
  | [.ag [.d _ _ (.prod (.int .i64) (.list (.prod (.int .i64) (.int .i64)))) R], .ag [.v _ (.int .i64 x), .v _ (.int .i64 y)]] => some (.br (szG R) (.ret (.one (.v false (.bool (valGB R && memG R x y))))) (.bad 900))
  | _ => none
set_option maxHeartbeats 4000000 in
theorem r18c_ok : FunOK Try.prog 36 r18c_g := by
  refine fun_ok (by kernel_rfl) (moH_S54_ok) (moH_L55_ok) 9 (On := (opens [])) (fun args t h => ?_)
  unfold r18c_g at h
  split at h
  · rename_i _ _ R _ x _ y
    simp only [Option.some.injEq] at h
    subst h
    refine ⟨[.ag [.d false false (.prod (.int .i64) (.list (.prod (.int .i64) (.int .i64)))) R], .ag [.v false (.int .i64 x), .v false (.int .i64 y)]], rfl, fun fr w us h => h, fun r hr => ?_⟩
    obtain ⟨hc, hr⟩ := br_bad hr
    simp only [Tr.val, Option.some.injEq] at hr
    subst hr
    rw [r18c_tree]
    exact r18c_val R x y hc
  · cases h
noncomputable def moH_S56 : Sums := addS 36 r18c_g moH_S54
theorem moH_S56_ok : SumOK Try.prog moH_S56 := addS_ok (r18c_ok) (moH_S54_ok)
noncomputable def rgnc_t (R : (Ty.list (.prod (.int .i64) (.list (.prod (.int .i64) (.int .i64))))).den) (x : Int) (y : Int) : Tr AV := .br (((szG R) && (bif !valGB R then true else ((((bsf_cond (R, y, (0 : Int), false, (↑(List.length R) : Int)) ((0 : Int), (↑(List.length R) : Int))) && ((Nat.beq (Prod.fst (bsf_g (R, y, (0 : Int), false, (↑(List.length R) : Int)) ((0 : Int), (↑(List.length R) : Int)))) (0 : Nat)) && (bif decide (Prod.fst (Prod.snd (bsf_g (R, y, (0 : Int), false, (↑(List.length R) : Int)) ((0 : Int), (↑(List.length R) : Int)))) < (↑(List.length R) : Int)) then (decide ((0 : Int) ≤ Prod.fst (Prod.snd (bsf_g (R, y, (0 : Int), false, (↑(List.length R) : Int)) ((0 : Int), (↑(List.length R) : Int))))) && decide (Prod.fst (Prod.snd (bsf_g (R, y, (0 : Int), false, (↑(List.length R) : Int)) ((0 : Int), (↑(List.length R) : Int)))) < (↑(List.length R) : Int))) else true)))) && (bif bif decide (Prod.fst (Prod.snd (bsf_g (R, y, (0 : Int), false, (↑(List.length R) : Int)) ((0 : Int), (↑(List.length R) : Int)))) < (↑(List.length R) : Int)) then cmpI (Prod.fst (el_ilii R (Prod.fst (Prod.snd (bsf_g (R, y, (0 : Int), false, (↑(List.length R) : Int)) ((0 : Int), (↑(List.length R) : Int))))))) y == (0 : Int) else false then ((decide ((0 : Int) ≤ bif decide (Prod.fst (Prod.snd (bsf_g (R, y, (0 : Int), false, (↑(List.length R) : Int)) ((0 : Int), (↑(List.length R) : Int)))) < (↑(List.length R) : Int)) then Prod.fst (Prod.snd (bsf_g (R, y, (0 : Int), false, (↑(List.length R) : Int)) ((0 : Int), (↑(List.length R) : Int)))) else Prod.fst (Prod.snd (bsf_g (R, y, (0 : Int), false, (↑(List.length R) : Int)) ((0 : Int), (↑(List.length R) : Int))))) && decide ((bif decide (Prod.fst (Prod.snd (bsf_g (R, y, (0 : Int), false, (↑(List.length R) : Int)) ((0 : Int), (↑(List.length R) : Int)))) < (↑(List.length R) : Int)) then Prod.fst (Prod.snd (bsf_g (R, y, (0 : Int), false, (↑(List.length R) : Int)) ((0 : Int), (↑(List.length R) : Int)))) else Prod.fst (Prod.snd (bsf_g (R, y, (0 : Int), false, (↑(List.length R) : Int)) ((0 : Int), (↑(List.length R) : Int))))) < (↑(List.length R) : Int))) && (decide (List.length (Prod.snd (el_ilii R (bif decide (Prod.fst (Prod.snd (bsf_g (R, y, (0 : Int), false, (↑(List.length R) : Int)) ((0 : Int), (↑(List.length R) : Int)))) < (↑(List.length R) : Int)) then Prod.fst (Prod.snd (bsf_g (R, y, (0 : Int), false, (↑(List.length R) : Int)) ((0 : Int), (↑(List.length R) : Int)))) else Prod.fst (Prod.snd (bsf_g (R, y, (0 : Int), false, (↑(List.length R) : Int)) ((0 : Int), (↑(List.length R) : Int))))))) ≤ (100000 : Nat)))) else true))))) (.ret (.one (.v false (.bool (bif !valGB R then false else bif bif decide (Prod.fst (Prod.snd (bsf_g (R, y, (0 : Int), false, (↑(List.length R) : Int)) ((0 : Int), (↑(List.length R) : Int)))) < (↑(List.length R) : Int)) then cmpI (Prod.fst (el_ilii R (Prod.fst (Prod.snd (bsf_g (R, y, (0 : Int), false, (↑(List.length R) : Int)) ((0 : Int), (↑(List.length R) : Int))))))) y == (0 : Int) else false then valB (Prod.snd (el_ilii R (bif decide (Prod.fst (Prod.snd (bsf_g (R, y, (0 : Int), false, (↑(List.length R) : Int)) ((0 : Int), (↑(List.length R) : Int)))) < (↑(List.length R) : Int)) then Prod.fst (Prod.snd (bsf_g (R, y, (0 : Int), false, (↑(List.length R) : Int)) ((0 : Int), (↑(List.length R) : Int)))) else Prod.fst (Prod.snd (bsf_g (R, y, (0 : Int), false, (↑(List.length R) : Int)) ((0 : Int), (↑(List.length R) : Int))))))) && memB (Prod.snd (el_ilii R (bif decide (Prod.fst (Prod.snd (bsf_g (R, y, (0 : Int), false, (↑(List.length R) : Int)) ((0 : Int), (↑(List.length R) : Int)))) < (↑(List.length R) : Int)) then Prod.fst (Prod.snd (bsf_g (R, y, (0 : Int), false, (↑(List.length R) : Int)) ((0 : Int), (↑(List.length R) : Int)))) else Prod.fst (Prod.snd (bsf_g (R, y, (0 : Int), false, (↑(List.length R) : Int)) ((0 : Int), (↑(List.length R) : Int))))))) x else false))))) (.bad 116)
set_option maxRecDepth 100000 in
theorem rgnc_tree (R : (Ty.list (.prod (.int .i64) (.list (.prod (.int .i64) (.int .i64))))).den) (x : Int) (y : Int) : evalF Try.prog moH_S56 (opens []) moH_L55 9 37 [.ag [.d false false (.prod (.int .i64) (.list (.prod (.int .i64) (.int .i64)))) R], .ag [.v false (.int .i64 x), .v false (.int .i64 y)]] = rgnc_t R x y := by kernel_rfl
theorem rgnc_val (R : (Ty.list (.prod (.int .i64) (.list (.prod (.int .i64) (.int .i64))))).den) (x : Int) (y : Int) (hc : (szG R) = true) : (rgnc_t R x y).val = some (.one (.v false (.bool (valGB R && memG R x y)))) := by
  obtain ⟨K, rfl⟩ : ∃ K : Rg, K = R := ⟨R, rfl⟩
  have hs : szG K = true := hc
  unfold rgnc_t
  show cond _ _ _ = _
  cases hv : valGB K
  · simp only [hs, Bool.and_self, Bool.not_false, cond_true, cond_false, Bool.false_and, Tr.val]
  · have h := valGB_iff.1 hv
    have hl := ng_len h (by omega)
    have h9 : decide ((K.length : Int) ≤ 9223372036854775807) = true := decide_eq_true (by omega)
    obtain ⟨v1, i, hi, lo, up, g⟩ := bsf_run (R := K) (y := y) (a := 0) (b := false) (c := (K.length : Int)) h (by omega)
    by_cases q : i < K.length
    · by_cases e : K[i].1 = y
      · have hr := row_len (Ng.rows h _ (List.getElem_mem q))
        have z : decide (K[i].2.length ≤ 100000) = true := decide_eq_true (by omega)
        have vb : valB K[i].2 = true := valB_iff.2 (rowOk_val (Ng.rows h _ (List.getElem_mem q)))
        have me : memG K x y = memB K[i].2 x := by rw [← e]; exact memG_at h _ (List.getElem_mem q) x
        rw [me]
        simp only [hs, v1, g, h9, lt_t q, nn_t, el_g q, cmpI_eq, decide_eq_true e, z, vb, Nat.beq, Bool.not_true, Bool.and_self, Bool.true_and, cond_true, cond_false, Tr.val]
      · have me : memG K x y = false := memG_no fun r hr e2 => by
          obtain ⟨k, hk, rfl⟩ := List.getElem_of_mem hr
          rcases Nat.lt_trichotomy k i with c | c | c
          · have := lo k hk c; omega
          · subst c; exact e e2
          · have := ng_sort h i k q hk c
            have := up i q (Nat.le_refl _)
            omega
        rw [me]
        simp only [hs, v1, g, h9, lt_t q, nn_t, el_g q, cmpI_eq, decide_eq_false e, Nat.beq, Bool.not_true, Bool.and_self, Bool.and_false, Bool.true_and, cond_true, cond_false, Tr.val]
    · have d : decide ((i : Int) < (K.length : Int)) = false := decide_eq_false (by omega)
      have me : memG K x y = false := memG_no fun r hr e2 => by
        obtain ⟨k, hk, rfl⟩ := List.getElem_of_mem hr
        have := lo k hk (by omega); omega
      rw [me]
      simp only [hs, v1, g, h9, d, Nat.beq, Bool.not_true, Bool.and_self, Bool.and_false, Bool.true_and, cond_true, cond_false, Tr.val]
set_option maxHeartbeats 4000000 in
theorem rgnc_ok : FunOK Try.prog 37 r18c_g := by
  refine fun_ok (by kernel_rfl) (moH_S56_ok) (moH_L55_ok) 9 (On := (opens [])) (fun args t h => ?_)
  unfold r18c_g at h
  split at h
  · rename_i _ _ R _ x _ y
    simp only [Option.some.injEq] at h
    subst h
    refine ⟨[.ag [.d false false (.prod (.int .i64) (.list (.prod (.int .i64) (.int .i64)))) R], .ag [.v false (.int .i64 x), .v false (.int .i64 y)]], rfl, fun fr w us h => h, fun r hr => ?_⟩
    obtain ⟨hc, hr⟩ := br_bad hr
    simp only [Tr.val, Option.some.injEq] at hr
    subst hr
    rw [rgnc_tree]
    exact rgnc_val R x y hc
  · cases h
noncomputable def moH_S57 : Sums := addS 37 r18c_g moH_S56
theorem moH_S57_ok : SumOK Try.prog moH_S57 := addS_ok (rgnc_ok) (moH_S56_ok)
end Go.Proofs.Ytacgchandefjgaa
