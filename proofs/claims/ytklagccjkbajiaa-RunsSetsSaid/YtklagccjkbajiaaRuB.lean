/-
  Layer 6: lengths, membership, equality, moved and merged runs.
-/
import Derived.Test.YtklagccjkbajiaaProg
import Derived.Test.YtklagccjkbajiaaFvX
import Derived.Test.YtklagccjkbajiaaFvZ
import Derived.Test.YtklagccjkbajiaaAut
import Derived.Test.YtklagccjkbajiaaRd
import Derived.Test.YtklagccjkbajiaaPl
import Derived.Test.YtklagccjkbajiaaScn
import Derived.Test.YtklagccjkbajiaaRunM
import Derived.Test.YtklagccjkbajiaaRuA
namespace Go.Proofs.Ytklagccjkbajiaa
open Go
abbrev lnb_U : Type := (Ty.list (.prod (.int .i64) (.int .i64))).den × Int
abbrev lnb_V : Type := Int × Int
noncomputable def lnb_St (u : lnb_U) (v : lnb_V) : Stt := ⟨[.one (.d false false (.prod (.int .i64) (.int .i64)) u.1), .one .junk, .one (.v false (.int .i64 u.2)), .one (.v false (.int .i64 v.1)), .one (.v false (.int .i64 v.2)), .one .junk, .one .junk, .one .junk, .one .junk, .one .junk, .one .junk, .one .junk, .one .junk, .one .junk, .one .junk, .one .junk, .one .junk, .one .junk, .one .junk, .one .junk, .one .junk, .one .junk, .one .junk, .one .junk, .one .junk, .one .junk, .one .junk, .one .junk, .one .junk], [], 1003⟩
noncomputable def lnb_step (u : lnb_U) (v : lnb_V) : Tr (lnb_V ⊕ (Nat × lnb_V)) :=
  match u, v with
  | (q0, _), (q2, q3) => .br (decide (q3 < (↑(List.length q0) : Int))) (.br (decide (List.length q0 ≤ (100000 : Nat))) (.br (valB q0) (.br (decide ((0 : Int) ≤ q3) && decide (q3 < (↑(List.length q0) : Int))) (.br (decide ((0 : Int) ≤ q3) && decide (q3 < (↑(List.length q0) : Int))) (.ret (.inl (IntKind.wrap IntKind.i64 (IntKind.wrap IntKind.i64 (q2 + Prod.snd (el_ii q0 q3)) - Prod.fst (el_ii q0 q3)), IntKind.wrap IntKind.i64 (q3 + (1 : Int))))) (.bad 29)) (.bad 29)) (.ret (.inr (0, (q2, q3))))) (.bad 900)) (.ret (.inr (0, (q2, q3))))
set_option maxRecDepth 100000 in
set_option maxHeartbeats 4000000 in
theorem lnb_step_eq : ∀ (u : lnb_U) (v : lnb_V), (evalC Try.prog (evalB Try.prog ruA_S56 (opens []) ruA_L54 7).1 (evalB Try.prog ruA_S56 (opens []) ruA_L54 7).2 (opens []) (ruA_L54 15) 100000 (0 :: [0, 1, 0, 1, 1]) (loopOf (bodyOf Try.prog 15) [1, 1, 0, 1, 0]) (lnb_St u v) []).bind (finF [1, 5, 6, 7, 8, 9, 10, 11, 12, 13, 14, 15, 16, 17, 18, 19, 20, 21, 22, 23, 24, 25, 26, 27, 28] [] [] [] 1003) = (lnb_step u v).bind (outA (lnb_St u) [.exit 0]) := by
  rintro ⟨q0, q1⟩ ⟨q2, q3⟩
  kernel_rfl
noncomputable def lnb_rd (b : Bool) (o0 : Option AV) (o2 : Option AV) (o3 : Option AV) (o4 : Option AV) (own : Own) : Option (lnb_U × lnb_V) := zrT b <| zrO o0 fun za1 => zrA1 za1 fun zc2 => zrD (.prod (.int .i64) (.int .i64)) zc2 fun q0 => zrO o2 fun za3 => zrA1 za3 fun zc4 => zrI .i64 zc4 fun q1 => zrO o3 fun za5 => zrA1 za5 fun zc6 => zrI .i64 zc6 fun q2 => zrO o4 fun za7 => zrA1 za7 fun zc8 => zrI .i64 zc8 fun q3 => zrN own <| some ((q0, q1), (q2, q3))
noncomputable def lnb_can (st : Stt) : Stt := canA [1, 5, 6, 7, 8, 9, 10, 11, 12, 13, 14, 15, 16, 17, 18, 19, 20, 21, 22, 23, 24, 25, 26, 27, 28] [] [] [] 1003 st
noncomputable def lnb_cok (st : Stt) : Bool := canAok [1, 5, 6, 7, 8, 9, 10, 11, 12, 13, 14, 15, 16, 17, 18, 19, 20, 21, 22, 23, 24, 25, 26, 27, 28] [] [] [] 1003 st
noncomputable def lnb_read (st : Stt) : Option (lnb_U × lnb_V) := lnb_rd (lnb_cok st && (staysA [] [] st.own && juAll [1, 5, 6, 7, 8, 9, 10, 11, 12, 13, 14, 15, 16, 17, 18, 19, 20, 21, 22, 23, 24, 25, 26, 27, 28] (lnb_can st).tm 29)) (lnb_can st).tm[0]? (lnb_can st).tm[2]? (lnb_can st).tm[3]? (lnb_can st).tm[4]? (lnb_can st).own
set_option maxRecDepth 100000 in
set_option maxHeartbeats 4000000 in
theorem lnb_rd_ok {b : Bool} {tm : List AV} {own : Own} {u : lnb_U} {v : lnb_V} (hj : b = true → juAll [1, 5, 6, 7, 8, 9, 10, 11, 12, 13, 14, 15, 16, 17, 18, 19, 20, 21, 22, 23, 24, 25, 26, 27, 28] tm 29 = true) (h : lnb_rd b tm[0]? tm[2]? tm[3]? tm[4]? own = some (u, v)) : b = true ∧ tm = (lnb_St u v).tm ∧ own = (lnb_St u v).own := by
  unfold lnb_rd at h
  obtain ⟨rfl, h0⟩ := zrT_some h
  obtain ⟨za1, e0, h1⟩ := zrO_some h0
  obtain ⟨zc2, rfl, h2⟩ := zrA1_some h1
  obtain ⟨q0, rfl, h3⟩ := zrD_some h2
  obtain ⟨za3, e2, h4⟩ := zrO_some h3
  obtain ⟨zc4, rfl, h5⟩ := zrA1_some h4
  obtain ⟨q1, rfl, h6⟩ := zrI_some h5
  obtain ⟨za5, e3, h7⟩ := zrO_some h6
  obtain ⟨zc6, rfl, h8⟩ := zrA1_some h7
  obtain ⟨q2, rfl, h9⟩ := zrI_some h8
  obtain ⟨za7, e4, h10⟩ := zrO_some h9
  obtain ⟨zc8, rfl, h11⟩ := zrA1_some h10
  obtain ⟨q3, rfl, h12⟩ := zrI_some h11
  obtain ⟨rfl, h13⟩ := zrN_some h12
  have h := Option.some.inj h13
  have hu := congrArg Prod.fst h
  have hv := congrArg Prod.snd h
  dsimp only at hu hv
  subst hu
  subst hv
  exact ⟨rfl, (tm_fill (hj rfl) (Lv := [(0, .one (.d false false (.prod (.int .i64) (.int .i64)) q0)), (2, .one (.v false (.int .i64 q1))), (3, .one (.v false (.int .i64 q2))), (4, .one (.v false (.int .i64 q3)))]) (by kernel_rfl) ⟨e0, e2, e3, e4, trivial⟩).trans (by kernel_rfl), rfl⟩
theorem lnb_read_ok (st : Stt) (u : lnb_U) (v : lnb_V) (h : lnb_read st = some (u, v)) : lnb_cok st = true ∧ staysA [] [] st.own = true ∧ lnb_can st = lnb_St u v := by
  obtain ⟨h1, h2, h3⟩ := lnb_rd_ok (fun hb => by rw [Bool.and_eq_true, Bool.and_eq_true] at hb; exact hb.2.2) h
  rw [Bool.and_eq_true, Bool.and_eq_true] at h1
  refine ⟨h1.1, h1.2.1, ?_⟩
  have e : lnb_can st = ⟨(lnb_can st).tm, (lnb_can st).own, 1003⟩ := by kernel_rfl
  rw [e, h2, h3]
  rfl
noncomputable def lnb_cond (u : lnb_U) (v : lnb_V) : Bool := runC (lnb_step u) v
noncomputable def lnb_g (u : lnb_U) (v : lnb_V) : Nat × lnb_V := runG (lnb_step u) v
theorem lnb_hg : ∀ (u : lnb_U) (v : lnb_V), lnb_cond u v = true → loopN (lnb_step u) ((fun u v => runF (lnb_step u) v) u v) v = some (lnb_g u v) := by
  exact fun u v h => run_hg h
noncomputable def lnb_m (st : Stt) : Option (Tr (Ex × Stt)) := sumM lnb_read lnb_cond lnb_St lnb_g [(0, .exit 0)] st
noncomputable def ruB_L51 : FuncId → Loops := addL 15 [0, 1, 0, 1, 1] lnb_m ruA_L54
set_option maxRecDepth 100000 in
set_option maxHeartbeats 4000000 in
theorem ruB_L51_ok : LoopsOK Try.prog ruB_L51 :=
  loop_sumF (body := (bodyOf Try.prog 15)) (c := (loopOf (bodyOf Try.prog 15) [1, 1, 0, 1, 0])) (kinds := [.exit 0]) (allow := [(0, .exit 0)]) (St := lnb_St) (step := lnb_step) (W := [1, 5, 6, 7, 8, 9, 10, 11, 12, 13, 14, 15, 16, 17, 18, 19, 20, 21, 22, 23, 24, 25, 26, 27, 28]) (As := []) (ks := []) (dd := []) (nx := 1003) (n := 100000) (g := lnb_g) (cond := lnb_cond) (fuel := (fun u v => runF (lnb_step u) v)) (read := lnb_read) (by kernel_rfl) (ruA_S56_ok) (ruA_L54_ok) 7 ⟨Try.f15, by kernel_rfl, by kernel_rfl⟩ (by kernel_rfl) (by kernel_rfl) (by kernel_rfl) lnb_step_eq lnb_hg lnb_read_ok
abbrev sme_U : Type := (Ty.list (.prod (.int .i64) (.int .i64))).den × (Ty.list (.prod (.int .i64) (.int .i64))).den
abbrev sme_V : Type := Bool × Int
noncomputable def sme_St (u : sme_U) (v : sme_V) : Stt := ⟨[.one (.d false false (.prod (.int .i64) (.int .i64)) u.1), .one (.d false false (.prod (.int .i64) (.int .i64)) u.2), .one .junk, .one .junk, .one (.v false (.bool v.1)), .one (.v false (.int .i64 v.2)), .one .junk, .one .junk, .one .junk, .one .junk, .one .junk, .one .junk, .one .junk, .one .junk, .one .junk, .one .junk, .one .junk, .one .junk, .one .junk, .one .junk, .one .junk, .one .junk, .one .junk, .one .junk, .one .junk, .one .junk], [], 1007⟩
noncomputable def sme_step (u : sme_U) (v : sme_V) : Tr (sme_V ⊕ (Nat × sme_V)) :=
  match u, v with
  | (q0, q1), (q2, q3) => .br (decide (q3 < (↑(List.length q0) : Int))) (.br (decide ((0 : Int) ≤ q3) && decide (q3 < (↑(List.length q0) : Int))) (.br (decide ((0 : Int) ≤ q3) && decide (q3 < (↑(List.length q1) : Int))) (.br (!(Prod.fst (el_ii q0 q3) == Prod.fst (el_ii q1 q3) && (Prod.snd (el_ii q0 q3) == Prod.snd (el_ii q1 q3) && true))) (.ret (.inr (0, (false, q3)))) (.ret (.inl (q2, IntKind.wrap IntKind.i64 (q3 + (1 : Int)))))) (.bad 29)) (.bad 29)) (.ret (.inr (1, (q2, q3))))
set_option maxRecDepth 100000 in
set_option maxHeartbeats 4000000 in
theorem sme_step_eq : ∀ (u : sme_U) (v : sme_V), (evalC Try.prog (evalB Try.prog ruA_S56 (opens []) ruB_L51 7).1 (evalB Try.prog ruA_S56 (opens []) ruB_L51 7).2 (opens []) (ruB_L51 11) 100000 (0 :: [0, 1, 0, 1, 1]) (loopOf (bodyOf Try.prog 11) [1, 1, 0, 1, 0]) (sme_St u v) []).bind (finF [2, 3, 6, 7, 8, 9, 10, 11, 12, 13, 14, 15, 16, 17, 18, 19, 20, 21, 22, 23, 24, 25] [] [] [] 1007) = (sme_step u v).bind (outA (sme_St u) [.ret, .exit 0]) := by
  rintro ⟨q0, q1⟩ ⟨q2, q3⟩
  kernel_rfl
noncomputable def sme_rd (b : Bool) (o0 : Option AV) (o1 : Option AV) (o4 : Option AV) (o5 : Option AV) (own : Own) : Option (sme_U × sme_V) := zrT b <| zrO o0 fun za1 => zrA1 za1 fun zc2 => zrD (.prod (.int .i64) (.int .i64)) zc2 fun q0 => zrO o1 fun za3 => zrA1 za3 fun zc4 => zrD (.prod (.int .i64) (.int .i64)) zc4 fun q1 => zrO o4 fun za5 => zrA1 za5 fun zc6 => zrB zc6 fun q2 => zrO o5 fun za7 => zrA1 za7 fun zc8 => zrI .i64 zc8 fun q3 => zrN own <| some ((q0, q1), (q2, q3))
noncomputable def sme_can (st : Stt) : Stt := canA [2, 3, 6, 7, 8, 9, 10, 11, 12, 13, 14, 15, 16, 17, 18, 19, 20, 21, 22, 23, 24, 25] [] [] [] 1007 st
noncomputable def sme_cok (st : Stt) : Bool := canAok [2, 3, 6, 7, 8, 9, 10, 11, 12, 13, 14, 15, 16, 17, 18, 19, 20, 21, 22, 23, 24, 25] [] [] [] 1007 st
noncomputable def sme_read (st : Stt) : Option (sme_U × sme_V) := sme_rd (sme_cok st && (staysA [] [] st.own && juAll [2, 3, 6, 7, 8, 9, 10, 11, 12, 13, 14, 15, 16, 17, 18, 19, 20, 21, 22, 23, 24, 25] (sme_can st).tm 26)) (sme_can st).tm[0]? (sme_can st).tm[1]? (sme_can st).tm[4]? (sme_can st).tm[5]? (sme_can st).own
set_option maxRecDepth 100000 in
set_option maxHeartbeats 4000000 in
theorem sme_rd_ok {b : Bool} {tm : List AV} {own : Own} {u : sme_U} {v : sme_V} (hj : b = true → juAll [2, 3, 6, 7, 8, 9, 10, 11, 12, 13, 14, 15, 16, 17, 18, 19, 20, 21, 22, 23, 24, 25] tm 26 = true) (h : sme_rd b tm[0]? tm[1]? tm[4]? tm[5]? own = some (u, v)) : b = true ∧ tm = (sme_St u v).tm ∧ own = (sme_St u v).own := by
  unfold sme_rd at h
  obtain ⟨rfl, h0⟩ := zrT_some h
  obtain ⟨za1, e0, h1⟩ := zrO_some h0
  obtain ⟨zc2, rfl, h2⟩ := zrA1_some h1
  obtain ⟨q0, rfl, h3⟩ := zrD_some h2
  obtain ⟨za3, e1, h4⟩ := zrO_some h3
  obtain ⟨zc4, rfl, h5⟩ := zrA1_some h4
  obtain ⟨q1, rfl, h6⟩ := zrD_some h5
  obtain ⟨za5, e4, h7⟩ := zrO_some h6
  obtain ⟨zc6, rfl, h8⟩ := zrA1_some h7
  obtain ⟨q2, rfl, h9⟩ := zrB_some h8
  obtain ⟨za7, e5, h10⟩ := zrO_some h9
  obtain ⟨zc8, rfl, h11⟩ := zrA1_some h10
  obtain ⟨q3, rfl, h12⟩ := zrI_some h11
  obtain ⟨rfl, h13⟩ := zrN_some h12
  have h := Option.some.inj h13
  have hu := congrArg Prod.fst h
  have hv := congrArg Prod.snd h
  dsimp only at hu hv
  subst hu
  subst hv
  exact ⟨rfl, (tm_fill (hj rfl) (Lv := [(0, .one (.d false false (.prod (.int .i64) (.int .i64)) q0)), (1, .one (.d false false (.prod (.int .i64) (.int .i64)) q1)), (4, .one (.v false (.bool q2))), (5, .one (.v false (.int .i64 q3)))]) (by kernel_rfl) ⟨e0, e1, e4, e5, trivial⟩).trans (by kernel_rfl), rfl⟩
theorem sme_read_ok (st : Stt) (u : sme_U) (v : sme_V) (h : sme_read st = some (u, v)) : sme_cok st = true ∧ staysA [] [] st.own = true ∧ sme_can st = sme_St u v := by
  obtain ⟨h1, h2, h3⟩ := sme_rd_ok (fun hb => by rw [Bool.and_eq_true, Bool.and_eq_true] at hb; exact hb.2.2) h
  rw [Bool.and_eq_true, Bool.and_eq_true] at h1
  refine ⟨h1.1, h1.2.1, ?_⟩
  have e : sme_can st = ⟨(sme_can st).tm, (sme_can st).own, 1007⟩ := by kernel_rfl
  rw [e, h2, h3]
  rfl
noncomputable def sme_cond (u : sme_U) (v : sme_V) : Bool := runC (sme_step u) v
noncomputable def sme_g (u : sme_U) (v : sme_V) : Nat × sme_V := runG (sme_step u) v
theorem sme_hg : ∀ (u : sme_U) (v : sme_V), sme_cond u v = true → loopN (sme_step u) ((fun u v => runF (sme_step u) v) u v) v = some (sme_g u v) := by
  exact fun u v h => run_hg h
noncomputable def sme_m (st : Stt) : Option (Tr (Ex × Stt)) := sumM sme_read sme_cond sme_St sme_g [(0, .ret), (1, .exit 0)] st
noncomputable def ruB_L52 : FuncId → Loops := addL 11 [0, 1, 0, 1, 1] sme_m ruB_L51
set_option maxRecDepth 100000 in
set_option maxHeartbeats 4000000 in
theorem ruB_L52_ok : LoopsOK Try.prog ruB_L52 :=
  loop_sumF (body := (bodyOf Try.prog 11)) (c := (loopOf (bodyOf Try.prog 11) [1, 1, 0, 1, 0])) (kinds := [.ret, .exit 0]) (allow := [(0, .ret), (1, .exit 0)]) (St := sme_St) (step := sme_step) (W := [2, 3, 6, 7, 8, 9, 10, 11, 12, 13, 14, 15, 16, 17, 18, 19, 20, 21, 22, 23, 24, 25]) (As := []) (ks := []) (dd := []) (nx := 1007) (n := 100000) (g := sme_g) (cond := sme_cond) (fuel := (fun u v => runF (sme_step u) v)) (read := sme_read) (by kernel_rfl) (ruA_S56_ok) (ruB_L51_ok) 7 ⟨Try.f11, by kernel_rfl, by kernel_rfl⟩ (by kernel_rfl) (by kernel_rfl) (by kernel_rfl) sme_step_eq sme_hg sme_read_ok
abbrev inn_U : Type := (Ty.list (.prod (.int .i64) (.int .i64))).den × Int
abbrev inn_V : Type := Bool × Int
noncomputable def inn_St (u : inn_U) (v : inn_V) : Stt := ⟨[.one (.d false false (.prod (.int .i64) (.int .i64)) u.1), .one (.v false (.int .i64 u.2)), .one .junk, .one .junk, .one (.v false (.bool v.1)), .one (.v false (.int .i64 v.2)), .one .junk, .one .junk, .one .junk, .one .junk, .one .junk, .one .junk, .one .junk, .one .junk, .one .junk, .one .junk, .one .junk, .one .junk, .one .junk, .one .junk, .one .junk, .one .junk, .one .junk, .one .junk, .one .junk, .one .junk, .one .junk, .one .junk], [], 1002⟩
noncomputable def inn_step (u : inn_U) (v : inn_V) : Tr (inn_V ⊕ (Nat × inn_V)) :=
  match u, v with
  | (q0, q1), (q2, q3) => .br (decide (q3 < (↑(List.length q0) : Int))) (.br (decide ((0 : Int) ≤ q3) && decide (q3 < (↑(List.length q0) : Int))) (.br ((bif decide (Prod.fst (el_ii q0 q3) ≤ q1) then (decide ((0 : Int) ≤ q3) && decide (q3 < (↑(List.length q0) : Int))) else true)) (.br (bif decide (Prod.fst (el_ii q0 q3) ≤ q1) then decide (q1 < Prod.snd (el_ii q0 q3)) else false) (.ret (.inr (0, (true, q3)))) (.ret (.inl (q2, IntKind.wrap IntKind.i64 (q3 + (1 : Int)))))) (.bad 117)) (.bad 29)) (.ret (.inr (1, (q2, q3))))
set_option maxRecDepth 100000 in
set_option maxHeartbeats 4000000 in
theorem inn_step_eq : ∀ (u : inn_U) (v : inn_V), (evalC Try.prog (evalB Try.prog ruA_S56 (opens []) ruB_L52 7).1 (evalB Try.prog ruA_S56 (opens []) ruB_L52 7).2 (opens []) (ruB_L52 38) 100000 (0 :: [0, 1, 0, 1]) (loopOf (bodyOf Try.prog 38) [1, 0, 1, 0]) (inn_St u v) []).bind (finF [2, 3, 6, 7, 8, 9, 10, 11, 12, 13, 14, 15, 16, 17, 18, 19, 20, 21, 22, 23, 24, 25, 26, 27] [] [] [] 1002) = (inn_step u v).bind (outA (inn_St u) [.ret, .exit 0]) := by
  rintro ⟨q0, q1⟩ ⟨q2, q3⟩
  kernel_rfl
noncomputable def inn_rd (b : Bool) (o0 : Option AV) (o1 : Option AV) (o4 : Option AV) (o5 : Option AV) (own : Own) : Option (inn_U × inn_V) := zrT b <| zrO o0 fun za1 => zrA1 za1 fun zc2 => zrD (.prod (.int .i64) (.int .i64)) zc2 fun q0 => zrO o1 fun za3 => zrA1 za3 fun zc4 => zrI .i64 zc4 fun q1 => zrO o4 fun za5 => zrA1 za5 fun zc6 => zrB zc6 fun q2 => zrO o5 fun za7 => zrA1 za7 fun zc8 => zrI .i64 zc8 fun q3 => zrN own <| some ((q0, q1), (q2, q3))
noncomputable def inn_can (st : Stt) : Stt := canA [2, 3, 6, 7, 8, 9, 10, 11, 12, 13, 14, 15, 16, 17, 18, 19, 20, 21, 22, 23, 24, 25, 26, 27] [] [] [] 1002 st
noncomputable def inn_cok (st : Stt) : Bool := canAok [2, 3, 6, 7, 8, 9, 10, 11, 12, 13, 14, 15, 16, 17, 18, 19, 20, 21, 22, 23, 24, 25, 26, 27] [] [] [] 1002 st
noncomputable def inn_read (st : Stt) : Option (inn_U × inn_V) := inn_rd (inn_cok st && (staysA [] [] st.own && juAll [2, 3, 6, 7, 8, 9, 10, 11, 12, 13, 14, 15, 16, 17, 18, 19, 20, 21, 22, 23, 24, 25, 26, 27] (inn_can st).tm 28)) (inn_can st).tm[0]? (inn_can st).tm[1]? (inn_can st).tm[4]? (inn_can st).tm[5]? (inn_can st).own
set_option maxRecDepth 100000 in
set_option maxHeartbeats 4000000 in
theorem inn_rd_ok {b : Bool} {tm : List AV} {own : Own} {u : inn_U} {v : inn_V} (hj : b = true → juAll [2, 3, 6, 7, 8, 9, 10, 11, 12, 13, 14, 15, 16, 17, 18, 19, 20, 21, 22, 23, 24, 25, 26, 27] tm 28 = true) (h : inn_rd b tm[0]? tm[1]? tm[4]? tm[5]? own = some (u, v)) : b = true ∧ tm = (inn_St u v).tm ∧ own = (inn_St u v).own := by
  unfold inn_rd at h
  obtain ⟨rfl, h0⟩ := zrT_some h
  obtain ⟨za1, e0, h1⟩ := zrO_some h0
  obtain ⟨zc2, rfl, h2⟩ := zrA1_some h1
  obtain ⟨q0, rfl, h3⟩ := zrD_some h2
  obtain ⟨za3, e1, h4⟩ := zrO_some h3
  obtain ⟨zc4, rfl, h5⟩ := zrA1_some h4
  obtain ⟨q1, rfl, h6⟩ := zrI_some h5
  obtain ⟨za5, e4, h7⟩ := zrO_some h6
  obtain ⟨zc6, rfl, h8⟩ := zrA1_some h7
  obtain ⟨q2, rfl, h9⟩ := zrB_some h8
  obtain ⟨za7, e5, h10⟩ := zrO_some h9
  obtain ⟨zc8, rfl, h11⟩ := zrA1_some h10
  obtain ⟨q3, rfl, h12⟩ := zrI_some h11
  obtain ⟨rfl, h13⟩ := zrN_some h12
  have h := Option.some.inj h13
  have hu := congrArg Prod.fst h
  have hv := congrArg Prod.snd h
  dsimp only at hu hv
  subst hu
  subst hv
  exact ⟨rfl, (tm_fill (hj rfl) (Lv := [(0, .one (.d false false (.prod (.int .i64) (.int .i64)) q0)), (1, .one (.v false (.int .i64 q1))), (4, .one (.v false (.bool q2))), (5, .one (.v false (.int .i64 q3)))]) (by kernel_rfl) ⟨e0, e1, e4, e5, trivial⟩).trans (by kernel_rfl), rfl⟩
theorem inn_read_ok (st : Stt) (u : inn_U) (v : inn_V) (h : inn_read st = some (u, v)) : inn_cok st = true ∧ staysA [] [] st.own = true ∧ inn_can st = inn_St u v := by
  obtain ⟨h1, h2, h3⟩ := inn_rd_ok (fun hb => by rw [Bool.and_eq_true, Bool.and_eq_true] at hb; exact hb.2.2) h
  rw [Bool.and_eq_true, Bool.and_eq_true] at h1
  refine ⟨h1.1, h1.2.1, ?_⟩
  have e : inn_can st = ⟨(inn_can st).tm, (inn_can st).own, 1002⟩ := by kernel_rfl
  rw [e, h2, h3]
  rfl
noncomputable def inn_cond (u : inn_U) (v : inn_V) : Bool := runC (inn_step u) v
noncomputable def inn_g (u : inn_U) (v : inn_V) : Nat × inn_V := runG (inn_step u) v
theorem inn_hg : ∀ (u : inn_U) (v : inn_V), inn_cond u v = true → loopN (inn_step u) ((fun u v => runF (inn_step u) v) u v) v = some (inn_g u v) := by
  exact fun u v h => run_hg h
noncomputable def inn_m (st : Stt) : Option (Tr (Ex × Stt)) := sumM inn_read inn_cond inn_St inn_g [(0, .ret), (1, .exit 0)] st
noncomputable def ruB_L53 : FuncId → Loops := addL 38 [0, 1, 0, 1] inn_m ruB_L52
set_option maxRecDepth 100000 in
set_option maxHeartbeats 4000000 in
theorem ruB_L53_ok : LoopsOK Try.prog ruB_L53 :=
  loop_sumF (body := (bodyOf Try.prog 38)) (c := (loopOf (bodyOf Try.prog 38) [1, 0, 1, 0])) (kinds := [.ret, .exit 0]) (allow := [(0, .ret), (1, .exit 0)]) (St := inn_St) (step := inn_step) (W := [2, 3, 6, 7, 8, 9, 10, 11, 12, 13, 14, 15, 16, 17, 18, 19, 20, 21, 22, 23, 24, 25, 26, 27]) (As := []) (ks := []) (dd := []) (nx := 1002) (n := 100000) (g := inn_g) (cond := inn_cond) (fuel := (fun u v => runF (inn_step u) v)) (read := inn_read) (by kernel_rfl) (ruA_S56_ok) (ruB_L52_ok) 7 ⟨Try.f38, by kernel_rfl, by kernel_rfl⟩ (by kernel_rfl) (by kernel_rfl) (by kernel_rfl) inn_step_eq inn_hg inn_read_ok
abbrev lna_U : Type := Int × (Ty.list (.prod (.int .i64) (.int .i64))).den × Int
abbrev lna_V : Type := Int × Int
noncomputable def lna_St (u : lna_U) (v : lna_V) : Stt := ⟨[.one .junk, .one .junk, .one (.v false (.int .i64 u.1)), .one (.v false (.int .i64 v.1)), .one .junk, .one .junk, .one .junk, .one .junk, .one .junk, .one (.d false false (.prod (.int .i64) (.int .i64)) u.2.1), .one (.v false (.int .i64 u.2.2)), .one (.v false (.int .i64 v.2)), .one .junk, .one .junk, .one .junk, .one .junk, .one .junk, .one .junk, .one .junk, .one .junk, .one .junk, .one .junk, .one .junk, .one .junk], [], 1008⟩
noncomputable def lna_step (u : lna_U) (v : lna_V) : Tr (lna_V ⊕ (Nat × lna_V)) :=
  match u, v with
  | (_, q2, q3), (q1, q4) => .br (decide (q4 < q3)) (.br (decide ((0 : Int) ≤ q4) && decide (q4 < (↑(List.length q2) : Int))) (.ret (.inl (IntKind.wrap IntKind.i64 (q1 + IntKind.wrap IntKind.i64 (Prod.snd (el_ii q2 q4) - Prod.fst (el_ii q2 q4))), IntKind.wrap IntKind.i64 (q4 + (1 : Int))))) (.bad 29)) (.ret (.inr (0, (q1, q4))))
set_option maxRecDepth 100000 in
set_option maxHeartbeats 4000000 in
theorem lna_step_eq : ∀ (u : lna_U) (v : lna_V), (evalC Try.prog (evalB Try.prog ruA_S56 (opens []) ruB_L53 7).1 (evalB Try.prog ruA_S56 (opens []) ruB_L53 7).2 (opens []) (ruB_L53 14) 100000 (0 :: [0, 1, 0, 1, 1, 1]) (loopOf (bodyOf Try.prog 14) [1, 1, 1, 0, 1, 0]) (lna_St u v) []).bind (finF [0, 1, 4, 5, 6, 7, 8, 12, 13, 14, 15, 16, 17, 18, 19, 20, 21, 22, 23] [] [] [] 1008) = (lna_step u v).bind (outA (lna_St u) [.exit 0]) := by
  rintro ⟨q0, q2, q3⟩ ⟨q1, q4⟩
  kernel_rfl
noncomputable def lna_rd (b : Bool) (o2 : Option AV) (o3 : Option AV) (o9 : Option AV) (o10 : Option AV) (o11 : Option AV) (own : Own) : Option (lna_U × lna_V) := zrT b <| zrO o2 fun za1 => zrA1 za1 fun zc2 => zrI .i64 zc2 fun q0 => zrO o3 fun za3 => zrA1 za3 fun zc4 => zrI .i64 zc4 fun q1 => zrO o9 fun za5 => zrA1 za5 fun zc6 => zrD (.prod (.int .i64) (.int .i64)) zc6 fun q2 => zrO o10 fun za7 => zrA1 za7 fun zc8 => zrI .i64 zc8 fun q3 => zrO o11 fun za9 => zrA1 za9 fun zc10 => zrI .i64 zc10 fun q4 => zrN own <| some ((q0, q2, q3), (q1, q4))
noncomputable def lna_can (st : Stt) : Stt := canA [0, 1, 4, 5, 6, 7, 8, 12, 13, 14, 15, 16, 17, 18, 19, 20, 21, 22, 23] [] [] [] 1008 st
noncomputable def lna_cok (st : Stt) : Bool := canAok [0, 1, 4, 5, 6, 7, 8, 12, 13, 14, 15, 16, 17, 18, 19, 20, 21, 22, 23] [] [] [] 1008 st
noncomputable def lna_read (st : Stt) : Option (lna_U × lna_V) := lna_rd (lna_cok st && (staysA [] [] st.own && juAll [0, 1, 4, 5, 6, 7, 8, 12, 13, 14, 15, 16, 17, 18, 19, 20, 21, 22, 23] (lna_can st).tm 24)) (lna_can st).tm[2]? (lna_can st).tm[3]? (lna_can st).tm[9]? (lna_can st).tm[10]? (lna_can st).tm[11]? (lna_can st).own
set_option maxRecDepth 100000 in
set_option maxHeartbeats 4000000 in
theorem lna_rd_ok {b : Bool} {tm : List AV} {own : Own} {u : lna_U} {v : lna_V} (hj : b = true → juAll [0, 1, 4, 5, 6, 7, 8, 12, 13, 14, 15, 16, 17, 18, 19, 20, 21, 22, 23] tm 24 = true) (h : lna_rd b tm[2]? tm[3]? tm[9]? tm[10]? tm[11]? own = some (u, v)) : b = true ∧ tm = (lna_St u v).tm ∧ own = (lna_St u v).own := by
  unfold lna_rd at h
  obtain ⟨rfl, h0⟩ := zrT_some h
  obtain ⟨za1, e2, h1⟩ := zrO_some h0
  obtain ⟨zc2, rfl, h2⟩ := zrA1_some h1
  obtain ⟨q0, rfl, h3⟩ := zrI_some h2
  obtain ⟨za3, e3, h4⟩ := zrO_some h3
  obtain ⟨zc4, rfl, h5⟩ := zrA1_some h4
  obtain ⟨q1, rfl, h6⟩ := zrI_some h5
  obtain ⟨za5, e9, h7⟩ := zrO_some h6
  obtain ⟨zc6, rfl, h8⟩ := zrA1_some h7
  obtain ⟨q2, rfl, h9⟩ := zrD_some h8
  obtain ⟨za7, e10, h10⟩ := zrO_some h9
  obtain ⟨zc8, rfl, h11⟩ := zrA1_some h10
  obtain ⟨q3, rfl, h12⟩ := zrI_some h11
  obtain ⟨za9, e11, h13⟩ := zrO_some h12
  obtain ⟨zc10, rfl, h14⟩ := zrA1_some h13
  obtain ⟨q4, rfl, h15⟩ := zrI_some h14
  obtain ⟨rfl, h16⟩ := zrN_some h15
  have h := Option.some.inj h16
  have hu := congrArg Prod.fst h
  have hv := congrArg Prod.snd h
  dsimp only at hu hv
  subst hu
  subst hv
  exact ⟨rfl, (tm_fill (hj rfl) (Lv := [(2, .one (.v false (.int .i64 q0))), (3, .one (.v false (.int .i64 q1))), (9, .one (.d false false (.prod (.int .i64) (.int .i64)) q2)), (10, .one (.v false (.int .i64 q3))), (11, .one (.v false (.int .i64 q4)))]) (by kernel_rfl) ⟨e2, e3, e9, e10, e11, trivial⟩).trans (by kernel_rfl), rfl⟩
theorem lna_read_ok (st : Stt) (u : lna_U) (v : lna_V) (h : lna_read st = some (u, v)) : lna_cok st = true ∧ staysA [] [] st.own = true ∧ lna_can st = lna_St u v := by
  obtain ⟨h1, h2, h3⟩ := lna_rd_ok (fun hb => by rw [Bool.and_eq_true, Bool.and_eq_true] at hb; exact hb.2.2) h
  rw [Bool.and_eq_true, Bool.and_eq_true] at h1
  refine ⟨h1.1, h1.2.1, ?_⟩
  have e : lna_can st = ⟨(lna_can st).tm, (lna_can st).own, 1008⟩ := by kernel_rfl
  rw [e, h2, h3]
  rfl
noncomputable def lna_cond (u : lna_U) (v : lna_V) : Bool := runC (lna_step u) v
noncomputable def lna_g (u : lna_U) (v : lna_V) : Nat × lna_V := runG (lna_step u) v
theorem lna_hg : ∀ (u : lna_U) (v : lna_V), lna_cond u v = true → loopN (lna_step u) ((fun u v => runF (lna_step u) v) u v) v = some (lna_g u v) := by
  exact fun u v h => run_hg h
noncomputable def lna_m (st : Stt) : Option (Tr (Ex × Stt)) := sumM lna_read lna_cond lna_St lna_g [(0, .exit 0)] st
noncomputable def ruB_L54 : FuncId → Loops := addL 14 [0, 1, 0, 1, 1, 1] lna_m ruB_L53
set_option maxRecDepth 100000 in
set_option maxHeartbeats 4000000 in
theorem ruB_L54_ok : LoopsOK Try.prog ruB_L54 :=
  loop_sumF (body := (bodyOf Try.prog 14)) (c := (loopOf (bodyOf Try.prog 14) [1, 1, 1, 0, 1, 0])) (kinds := [.exit 0]) (allow := [(0, .exit 0)]) (St := lna_St) (step := lna_step) (W := [0, 1, 4, 5, 6, 7, 8, 12, 13, 14, 15, 16, 17, 18, 19, 20, 21, 22, 23]) (As := []) (ks := []) (dd := []) (nx := 1008) (n := 100000) (g := lna_g) (cond := lna_cond) (fuel := (fun u v => runF (lna_step u) v)) (read := lna_read) (by kernel_rfl) (ruA_S56_ok) (ruB_L53_ok) 7 ⟨Try.f14, by kernel_rfl, by kernel_rfl⟩ (by kernel_rfl) (by kernel_rfl) (by kernel_rfl) lna_step_eq lna_hg lna_read_ok
abbrev cta_U : Type := Int × (Ty.list (.prod (.int .i64) (.int .i64))).den × Int
abbrev cta_V : Type := Bool × Int
noncomputable def cta_St (u : cta_U) (v : cta_V) : Stt := ⟨[.one .junk, .one (.v false (.int .i64 u.1)), .one .junk, .one .junk, .one (.v false (.bool v.1)), .one .junk, .one .junk, .one .junk, .one .junk, .one .junk, .one (.d false false (.prod (.int .i64) (.int .i64)) u.2.1), .one (.v false (.int .i64 u.2.2)), .one (.v false (.int .i64 v.2)), .one .junk, .one .junk, .one .junk, .one .junk, .one .junk, .one .junk, .one .junk, .one .junk, .one .junk, .one .junk, .one .junk, .one .junk, .one .junk, .one .junk], [], 1007⟩
noncomputable def cta_step (u : cta_U) (v : cta_V) : Tr (cta_V ⊕ (Nat × cta_V)) :=
  match u, v with
  | (q0, q2, q3), (q1, q4) => .br (decide (q4 < q3)) (.br (decide ((0 : Int) ≤ q4) && decide (q4 < (↑(List.length q2) : Int))) (.br (bif decide (Prod.fst (el_ii q2 q4) ≤ q0) then decide (q0 < Prod.snd (el_ii q2 q4)) else false) (.ret (.inr (0, (true, q4)))) (.ret (.inl (q1, IntKind.wrap IntKind.i64 (q4 + (1 : Int)))))) (.bad 29)) (.ret (.inr (1, (q1, q4))))
set_option maxRecDepth 100000 in
set_option maxHeartbeats 4000000 in
theorem cta_step_eq : ∀ (u : cta_U) (v : cta_V), (evalC Try.prog (evalB Try.prog ruA_S56 (opens []) ruB_L54 7).1 (evalB Try.prog ruA_S56 (opens []) ruB_L54 7).2 (opens []) (ruB_L54 16) 100000 (0 :: [0, 1, 0, 1, 1]) (loopOf (bodyOf Try.prog 16) [1, 1, 0, 1, 0]) (cta_St u v) []).bind (finF [0, 2, 3, 5, 6, 7, 8, 9, 13, 14, 15, 16, 17, 18, 19, 20, 21, 22, 23, 24, 25, 26] [] [] [] 1007) = (cta_step u v).bind (outA (cta_St u) [.ret, .exit 0]) := by
  rintro ⟨q0, q2, q3⟩ ⟨q1, q4⟩
  kernel_rfl
noncomputable def cta_rd (b : Bool) (o1 : Option AV) (o4 : Option AV) (o10 : Option AV) (o11 : Option AV) (o12 : Option AV) (own : Own) : Option (cta_U × cta_V) := zrT b <| zrO o1 fun za1 => zrA1 za1 fun zc2 => zrI .i64 zc2 fun q0 => zrO o4 fun za3 => zrA1 za3 fun zc4 => zrB zc4 fun q1 => zrO o10 fun za5 => zrA1 za5 fun zc6 => zrD (.prod (.int .i64) (.int .i64)) zc6 fun q2 => zrO o11 fun za7 => zrA1 za7 fun zc8 => zrI .i64 zc8 fun q3 => zrO o12 fun za9 => zrA1 za9 fun zc10 => zrI .i64 zc10 fun q4 => zrN own <| some ((q0, q2, q3), (q1, q4))
noncomputable def cta_can (st : Stt) : Stt := canA [0, 2, 3, 5, 6, 7, 8, 9, 13, 14, 15, 16, 17, 18, 19, 20, 21, 22, 23, 24, 25, 26] [] [] [] 1007 st
noncomputable def cta_cok (st : Stt) : Bool := canAok [0, 2, 3, 5, 6, 7, 8, 9, 13, 14, 15, 16, 17, 18, 19, 20, 21, 22, 23, 24, 25, 26] [] [] [] 1007 st
noncomputable def cta_read (st : Stt) : Option (cta_U × cta_V) := cta_rd (cta_cok st && (staysA [] [] st.own && juAll [0, 2, 3, 5, 6, 7, 8, 9, 13, 14, 15, 16, 17, 18, 19, 20, 21, 22, 23, 24, 25, 26] (cta_can st).tm 27)) (cta_can st).tm[1]? (cta_can st).tm[4]? (cta_can st).tm[10]? (cta_can st).tm[11]? (cta_can st).tm[12]? (cta_can st).own
set_option maxRecDepth 100000 in
set_option maxHeartbeats 4000000 in
theorem cta_rd_ok {b : Bool} {tm : List AV} {own : Own} {u : cta_U} {v : cta_V} (hj : b = true → juAll [0, 2, 3, 5, 6, 7, 8, 9, 13, 14, 15, 16, 17, 18, 19, 20, 21, 22, 23, 24, 25, 26] tm 27 = true) (h : cta_rd b tm[1]? tm[4]? tm[10]? tm[11]? tm[12]? own = some (u, v)) : b = true ∧ tm = (cta_St u v).tm ∧ own = (cta_St u v).own := by
  unfold cta_rd at h
  obtain ⟨rfl, h0⟩ := zrT_some h
  obtain ⟨za1, e1, h1⟩ := zrO_some h0
  obtain ⟨zc2, rfl, h2⟩ := zrA1_some h1
  obtain ⟨q0, rfl, h3⟩ := zrI_some h2
  obtain ⟨za3, e4, h4⟩ := zrO_some h3
  obtain ⟨zc4, rfl, h5⟩ := zrA1_some h4
  obtain ⟨q1, rfl, h6⟩ := zrB_some h5
  obtain ⟨za5, e10, h7⟩ := zrO_some h6
  obtain ⟨zc6, rfl, h8⟩ := zrA1_some h7
  obtain ⟨q2, rfl, h9⟩ := zrD_some h8
  obtain ⟨za7, e11, h10⟩ := zrO_some h9
  obtain ⟨zc8, rfl, h11⟩ := zrA1_some h10
  obtain ⟨q3, rfl, h12⟩ := zrI_some h11
  obtain ⟨za9, e12, h13⟩ := zrO_some h12
  obtain ⟨zc10, rfl, h14⟩ := zrA1_some h13
  obtain ⟨q4, rfl, h15⟩ := zrI_some h14
  obtain ⟨rfl, h16⟩ := zrN_some h15
  have h := Option.some.inj h16
  have hu := congrArg Prod.fst h
  have hv := congrArg Prod.snd h
  dsimp only at hu hv
  subst hu
  subst hv
  exact ⟨rfl, (tm_fill (hj rfl) (Lv := [(1, .one (.v false (.int .i64 q0))), (4, .one (.v false (.bool q1))), (10, .one (.d false false (.prod (.int .i64) (.int .i64)) q2)), (11, .one (.v false (.int .i64 q3))), (12, .one (.v false (.int .i64 q4)))]) (by kernel_rfl) ⟨e1, e4, e10, e11, e12, trivial⟩).trans (by kernel_rfl), rfl⟩
theorem cta_read_ok (st : Stt) (u : cta_U) (v : cta_V) (h : cta_read st = some (u, v)) : cta_cok st = true ∧ staysA [] [] st.own = true ∧ cta_can st = cta_St u v := by
  obtain ⟨h1, h2, h3⟩ := cta_rd_ok (fun hb => by rw [Bool.and_eq_true, Bool.and_eq_true] at hb; exact hb.2.2) h
  rw [Bool.and_eq_true, Bool.and_eq_true] at h1
  refine ⟨h1.1, h1.2.1, ?_⟩
  have e : cta_can st = ⟨(cta_can st).tm, (cta_can st).own, 1007⟩ := by kernel_rfl
  rw [e, h2, h3]
  rfl
noncomputable def cta_cond (u : cta_U) (v : cta_V) : Bool := runC (cta_step u) v
noncomputable def cta_g (u : cta_U) (v : cta_V) : Nat × cta_V := runG (cta_step u) v
theorem cta_hg : ∀ (u : cta_U) (v : cta_V), cta_cond u v = true → loopN (cta_step u) ((fun u v => runF (cta_step u) v) u v) v = some (cta_g u v) := by
  exact fun u v h => run_hg h
noncomputable def cta_m (st : Stt) : Option (Tr (Ex × Stt)) := sumM cta_read cta_cond cta_St cta_g [(0, .ret), (1, .exit 0)] st
noncomputable def ruB_L55 : FuncId → Loops := addL 16 [0, 1, 0, 1, 1] cta_m ruB_L54
set_option maxRecDepth 100000 in
set_option maxHeartbeats 4000000 in
theorem ruB_L55_ok : LoopsOK Try.prog ruB_L55 :=
  loop_sumF (body := (bodyOf Try.prog 16)) (c := (loopOf (bodyOf Try.prog 16) [1, 1, 0, 1, 0])) (kinds := [.ret, .exit 0]) (allow := [(0, .ret), (1, .exit 0)]) (St := cta_St) (step := cta_step) (W := [0, 2, 3, 5, 6, 7, 8, 9, 13, 14, 15, 16, 17, 18, 19, 20, 21, 22, 23, 24, 25, 26]) (As := []) (ks := []) (dd := []) (nx := 1007) (n := 100000) (g := cta_g) (cond := cta_cond) (fuel := (fun u v => runF (cta_step u) v)) (read := cta_read) (by kernel_rfl) (ruA_S56_ok) (ruB_L54_ok) 7 ⟨Try.f16, by kernel_rfl, by kernel_rfl⟩ (by kernel_rfl) (by kernel_rfl) (by kernel_rfl) cta_step_eq cta_hg cta_read_ok
abbrev mov_U : Type := Int × Int × (Ty.list (.prod (.int .i64) (.int .i64))).den × Int
abbrev mov_V : Type := Int × (Ty.list (.prod (.int .i64) (.int .i64))).den
noncomputable def mov_St (u : mov_U) (v : mov_V) : Stt := ⟨[.one .junk, .one (.v false (.int .i64 u.1)), .one (.v false (.int .i64 u.2.1)), .one .junk, .one .junk, .one .junk, .one (.v false (Value.slice none (0 : Nat) (0 : Nat))), .one (.s false 980 0 (none)), .one .junk, .one .junk, .one (.d false false (.prod (.int .i64) (.int .i64)) u.2.2.1), .one (.v false (.int .i64 u.2.2.2)), .one (.v false (.int .i64 v.1)), .one .junk, .one .junk, .one .junk, .one .junk, .one .junk, .one .junk, .one .junk, .one .junk, .one .junk, .one .junk, .one .junk, .one .junk, .one .junk, .one .junk, .one .junk, .one .junk, .one .junk, .one .junk, .one .junk, .one .junk, .one .junk, .one .junk, .one .junk, .one .junk, .one .junk, .one .junk], [(980, .row true false false 38 (.prod (.int .i64) (.int .i64)) v.2)], 1005⟩
noncomputable def mov_step (u : mov_U) (v : mov_V) : Tr (mov_V ⊕ (Nat × mov_V)) :=
  match u, v with
  | (q0, q1, q2, q3), (q4, q5) => .br (decide (q4 < q3)) (.br (decide ((0 : Int) ≤ q4) && decide (q4 < (↑(List.length q2) : Int))) (.br (decide (IntKind.wrap IntKind.i64 (Prod.fst (el_ii q2 q4) + q0) < IntKind.wrap IntKind.i64 (Prod.snd (el_ii q2 q4) + q1))) (.br (decide ((List.length q5 + (1 : Nat)) * (16 : Nat) ≤ maxNew) && decide (List.length q5 + (1 : Nat) ≤ maxLen)) (.ret (.inl (IntKind.wrap IntKind.i64 (q4 + (1 : Int)), q5 ++ [(IntKind.wrap IntKind.i64 (Prod.fst (el_ii q2 q4) + q0), IntKind.wrap IntKind.i64 (Prod.snd (el_ii q2 q4) + q1))]))) (.bad 71)) (.ret (.inl (IntKind.wrap IntKind.i64 (q4 + (1 : Int)), q5)))) (.bad 29)) (.ret (.inr (0, (q4, q5))))
set_option maxRecDepth 100000 in
set_option maxHeartbeats 4000000 in
theorem mov_step_eq : ∀ (u : mov_U) (v : mov_V), (evalC Try.prog (evalB Try.prog ruA_S56 (opens []) ruB_L55 7).1 (evalB Try.prog ruA_S56 (opens []) ruB_L55 7).2 (opens []) (ruB_L55 43) 100000 (0 :: [0, 1, 0, 1, 1]) (loopOf (bodyOf Try.prog 43) [1, 1, 0, 1, 0]) (mov_St u v) []).bind (finF [0, 3, 4, 5, 8, 9, 13, 14, 15, 16, 17, 18, 19, 20, 21, 22, 23, 24, 25, 26, 27, 28, 29, 30, 31, 32, 33, 34, 35, 36, 37, 38] [⟨980, some 7, 0, 0, 38, (.prod (.int .i64) (.int .i64))⟩] [980] [1030] 1005) = (mov_step u v).bind (outA (mov_St u) [.exit 0]) := by
  rintro ⟨q0, q1, q2, q3⟩ ⟨q4, q5⟩
  kernel_rfl
noncomputable def mov_rd (b : Bool) (o1 : Option AV) (o2 : Option AV) (o6 : Option AV) (o7 : Option AV) (o10 : Option AV) (o11 : Option AV) (o12 : Option AV) (own : Own) : Option (mov_U × mov_V) := zrT b <| zrO o1 fun za1 => zrA1 za1 fun zc2 => zrI .i64 zc2 fun q0 => zrO o2 fun za3 => zrA1 za3 fun zc4 => zrI .i64 zc4 fun q1 => zrO o6 fun za5 => zrA1 za5 fun zc6 => zrNil zc6 <| zrO o7 fun za7 => zrA1 za7 fun zc8 => zrSl 980 0 (none) zc8 <| zrO o10 fun za9 => zrA1 za9 fun zc10 => zrD (.prod (.int .i64) (.int .i64)) zc10 fun q2 => zrO o11 fun za11 => zrA1 za11 fun zc12 => zrI .i64 zc12 fun q3 => zrO o12 fun za13 => zrA1 za13 fun zc14 => zrI .i64 zc14 fun q4 => zrL own fun zq15 zw16 => zrKey 980 zq15 fun zk17 => zrR true 38 (.prod (.int .i64) (.int .i64)) zk17 fun q5 => zrN zw16 <| some ((q0, q1, q2, q3), (q4, q5))
noncomputable def mov_can (st : Stt) : Stt := canA [0, 3, 4, 5, 8, 9, 13, 14, 15, 16, 17, 18, 19, 20, 21, 22, 23, 24, 25, 26, 27, 28, 29, 30, 31, 32, 33, 34, 35, 36, 37, 38] [⟨980, some 7, 0, 0, 38, (.prod (.int .i64) (.int .i64))⟩] [980] [1030] 1005 st
noncomputable def mov_cok (st : Stt) : Bool := canAok [0, 3, 4, 5, 8, 9, 13, 14, 15, 16, 17, 18, 19, 20, 21, 22, 23, 24, 25, 26, 27, 28, 29, 30, 31, 32, 33, 34, 35, 36, 37, 38] [⟨980, some 7, 0, 0, 38, (.prod (.int .i64) (.int .i64))⟩] [980] [1030] 1005 st
noncomputable def mov_read (st : Stt) : Option (mov_U × mov_V) := mov_rd (mov_cok st && (staysA [⟨980, some 7, 0, 0, 38, (.prod (.int .i64) (.int .i64))⟩] [980] st.own && juAll [0, 3, 4, 5, 8, 9, 13, 14, 15, 16, 17, 18, 19, 20, 21, 22, 23, 24, 25, 26, 27, 28, 29, 30, 31, 32, 33, 34, 35, 36, 37, 38] (mov_can st).tm 39)) (mov_can st).tm[1]? (mov_can st).tm[2]? (mov_can st).tm[6]? (mov_can st).tm[7]? (mov_can st).tm[10]? (mov_can st).tm[11]? (mov_can st).tm[12]? (mov_can st).own
set_option maxRecDepth 100000 in
set_option maxHeartbeats 4000000 in
theorem mov_rd_ok {b : Bool} {tm : List AV} {own : Own} {u : mov_U} {v : mov_V} (hj : b = true → juAll [0, 3, 4, 5, 8, 9, 13, 14, 15, 16, 17, 18, 19, 20, 21, 22, 23, 24, 25, 26, 27, 28, 29, 30, 31, 32, 33, 34, 35, 36, 37, 38] tm 39 = true) (h : mov_rd b tm[1]? tm[2]? tm[6]? tm[7]? tm[10]? tm[11]? tm[12]? own = some (u, v)) : b = true ∧ tm = (mov_St u v).tm ∧ own = (mov_St u v).own := by
  unfold mov_rd at h
  obtain ⟨rfl, h0⟩ := zrT_some h
  obtain ⟨za1, e1, h1⟩ := zrO_some h0
  obtain ⟨zc2, rfl, h2⟩ := zrA1_some h1
  obtain ⟨q0, rfl, h3⟩ := zrI_some h2
  obtain ⟨za3, e2, h4⟩ := zrO_some h3
  obtain ⟨zc4, rfl, h5⟩ := zrA1_some h4
  obtain ⟨q1, rfl, h6⟩ := zrI_some h5
  obtain ⟨za5, e6, h7⟩ := zrO_some h6
  obtain ⟨zc6, rfl, h8⟩ := zrA1_some h7
  obtain ⟨rfl, h9⟩ := zrNil_some h8
  obtain ⟨za7, e7, h10⟩ := zrO_some h9
  obtain ⟨zc8, rfl, h11⟩ := zrA1_some h10
  obtain ⟨rfl, h12⟩ := zrSl_some h11
  obtain ⟨za9, e10, h13⟩ := zrO_some h12
  obtain ⟨zc10, rfl, h14⟩ := zrA1_some h13
  obtain ⟨q2, rfl, h15⟩ := zrD_some h14
  obtain ⟨za11, e11, h16⟩ := zrO_some h15
  obtain ⟨zc12, rfl, h17⟩ := zrA1_some h16
  obtain ⟨q3, rfl, h18⟩ := zrI_some h17
  obtain ⟨za13, e12, h19⟩ := zrO_some h18
  obtain ⟨zc14, rfl, h20⟩ := zrA1_some h19
  obtain ⟨q4, rfl, h21⟩ := zrI_some h20
  obtain ⟨zq15, zw16, rfl, h22⟩ := zrL_some h21
  obtain ⟨zk17, rfl, h23⟩ := zrKey_some h22
  obtain ⟨q5, rfl, h24⟩ := zrR_some h23
  obtain ⟨rfl, h25⟩ := zrN_some h24
  have h := Option.some.inj h25
  have hu := congrArg Prod.fst h
  have hv := congrArg Prod.snd h
  dsimp only at hu hv
  subst hu
  subst hv
  exact ⟨rfl, (tm_fill (hj rfl) (Lv := [(1, .one (.v false (.int .i64 q0))), (2, .one (.v false (.int .i64 q1))), (6, .one (.v false (Value.slice none (0 : Nat) (0 : Nat)))), (7, .one (.s false 980 0 (none))), (10, .one (.d false false (.prod (.int .i64) (.int .i64)) q2)), (11, .one (.v false (.int .i64 q3))), (12, .one (.v false (.int .i64 q4)))]) (by kernel_rfl) ⟨e1, e2, e6, e7, e10, e11, e12, trivial⟩).trans (by kernel_rfl), rfl⟩
theorem mov_read_ok (st : Stt) (u : mov_U) (v : mov_V) (h : mov_read st = some (u, v)) : mov_cok st = true ∧ staysA [⟨980, some 7, 0, 0, 38, (.prod (.int .i64) (.int .i64))⟩] [980] st.own = true ∧ mov_can st = mov_St u v := by
  obtain ⟨h1, h2, h3⟩ := mov_rd_ok (fun hb => by rw [Bool.and_eq_true, Bool.and_eq_true] at hb; exact hb.2.2) h
  rw [Bool.and_eq_true, Bool.and_eq_true] at h1
  refine ⟨h1.1, h1.2.1, ?_⟩
  have e : mov_can st = ⟨(mov_can st).tm, (mov_can st).own, 1005⟩ := by kernel_rfl
  rw [e, h2, h3]
  rfl
noncomputable def mov_cond (u : mov_U) (v : mov_V) : Bool := runC (mov_step u) v
noncomputable def mov_g (u : mov_U) (v : mov_V) : Nat × mov_V := runG (mov_step u) v
theorem mov_hg : ∀ (u : mov_U) (v : mov_V), mov_cond u v = true → loopN (mov_step u) ((fun u v => runF (mov_step u) v) u v) v = some (mov_g u v) := by
  exact fun u v h => run_hg h
noncomputable def mov_m (st : Stt) : Option (Tr (Ex × Stt)) := sumM mov_read mov_cond mov_St mov_g [(0, .exit 0)] st
noncomputable def ruB_L56 : FuncId → Loops := addL 43 [0, 1, 0, 1, 1] mov_m ruB_L55
set_option maxRecDepth 100000 in
set_option maxHeartbeats 4000000 in
theorem ruB_L56_ok : LoopsOK Try.prog ruB_L56 :=
  loop_sumF (body := (bodyOf Try.prog 43)) (c := (loopOf (bodyOf Try.prog 43) [1, 1, 0, 1, 0])) (kinds := [.exit 0]) (allow := [(0, .exit 0)]) (St := mov_St) (step := mov_step) (W := [0, 3, 4, 5, 8, 9, 13, 14, 15, 16, 17, 18, 19, 20, 21, 22, 23, 24, 25, 26, 27, 28, 29, 30, 31, 32, 33, 34, 35, 36, 37, 38]) (As := [⟨980, some 7, 0, 0, 38, (.prod (.int .i64) (.int .i64))⟩]) (ks := [980]) (dd := [1030]) (nx := 1005) (n := 100000) (g := mov_g) (cond := mov_cond) (fuel := (fun u v => runF (mov_step u) v)) (read := mov_read) (by kernel_rfl) (ruA_S56_ok) (ruB_L55_ok) 7 ⟨Try.f43, by kernel_rfl, by kernel_rfl⟩ (by kernel_rfl) (by kernel_rfl) (by kernel_rfl) mov_step_eq mov_hg mov_read_ok
abbrev mrg_U : Type := (Ty.list (.prod (.int .i64) (.int .i64))).den × Int
abbrev mrg_V : Type := Int × (Ty.list (.prod (.int .i64) (.int .i64))).den
noncomputable def mrg_St (u : mrg_U) (v : mrg_V) : Stt := ⟨[.one .junk, .one .junk, .one (.v false (Value.slice none (0 : Nat) (0 : Nat))), .one (.s false 980 0 (none)), .one .junk, .one .junk, .one .junk, .one (.d false false (.prod (.int .i64) (.int .i64)) u.1), .one (.v false (.int .i64 u.2)), .one (.v false (.int .i64 v.1)), .one .junk, .one .junk, .one .junk, .one .junk, .one .junk, .one .junk, .one .junk, .one .junk, .one .junk, .one .junk, .one .junk, .one .junk, .one .junk, .one .junk, .one .junk, .one .junk, .one .junk, .one .junk, .one .junk, .one .junk, .one .junk, .one .junk, .one .junk, .one .junk, .one .junk, .one .junk, .one .junk, .one .junk, .one .junk, .one .junk, .one .junk, .one .junk, .one .junk, .one .junk, .one .junk, .one .junk], [(980, .row true false false 38 (.prod (.int .i64) (.int .i64)) v.2)], 1005⟩
noncomputable def mrg_step (u : mrg_U) (v : mrg_V) : Tr (mrg_V ⊕ (Nat × mrg_V)) :=
  match u, v with
  | (q0, q1), (q2, q3) => .br (decide (q2 < q1)) (.br (decide ((0 : Int) ≤ q2) && decide (q2 < (↑(List.length q0) : Int))) (.br ((bif decide (IntKind.wrap IntKind.i64 ((↑(List.length q3) : Int) - (1 : Int)) ≥ (0 : Int)) then ((decide ((0 : Int) ≤ IntKind.wrap IntKind.i64 ((↑(List.length q3) : Int) - (1 : Int))) && decide (IntKind.wrap IntKind.i64 ((↑(List.length q3) : Int) - (1 : Int)) < (↑(List.length q3) : Int))) && (decide (Int.toNat (IntKind.wrap IntKind.i64 ((↑(List.length q3) : Int) - (1 : Int))) < List.length q3))) else true)) (.br (bif decide (IntKind.wrap IntKind.i64 ((↑(List.length q3) : Int) - (1 : Int)) ≥ (0 : Int)) then decide (Prod.fst (el_ii q0 q2) ≤ Prod.snd (el_ii q3 (IntKind.wrap IntKind.i64 ((↑(List.length q3) : Int) - (1 : Int))))) else false) (.br (decide ((0 : Int) ≤ IntKind.wrap IntKind.i64 ((↑(List.length q3) : Int) - (1 : Int))) && decide (IntKind.wrap IntKind.i64 ((↑(List.length q3) : Int) - (1 : Int)) < (↑(List.length q3) : Int))) (.br (decide (Int.toNat (IntKind.wrap IntKind.i64 ((↑(List.length q3) : Int) - (1 : Int))) < List.length q3)) (.br (decide ((0 : Int) ≤ IntKind.wrap IntKind.i64 ((↑(List.length q3) : Int) - (1 : Int))) && decide (IntKind.wrap IntKind.i64 ((↑(List.length q3) : Int) - (1 : Int)) < (↑(List.length q3) : Int))) (.br (decide (Int.toNat (IntKind.wrap IntKind.i64 ((↑(List.length q3) : Int) - (1 : Int))) < List.length q3)) (.ret (.inl (IntKind.wrap IntKind.i64 (q2 + (1 : Int)), List.set q3 (Int.toNat (IntKind.wrap IntKind.i64 ((↑(List.length q3) : Int) - (1 : Int)))) (Prod.fst (el_ii q3 (IntKind.wrap IntKind.i64 ((↑(List.length q3) : Int) - (1 : Int)))), if Prod.snd (el_ii q0 q2) > Prod.snd (el_ii q3 (IntKind.wrap IntKind.i64 ((↑(List.length q3) : Int) - (1 : Int)))) then Prod.snd (el_ii q0 q2) else Prod.snd (el_ii q3 (IntKind.wrap IntKind.i64 ((↑(List.length q3) : Int) - (1 : Int)))))))) (.bad 19)) (.bad 31)) (.bad 12)) (.bad 31)) (.br (decide ((List.length q3 + (1 : Nat)) * (16 : Nat) ≤ maxNew) && decide (List.length q3 + (1 : Nat) ≤ maxLen)) (.ret (.inl (IntKind.wrap IntKind.i64 (q2 + (1 : Int)), q3 ++ [(Prod.fst (el_ii q0 q2), Prod.snd (el_ii q0 q2))]))) (.bad 71))) (.bad 117)) (.bad 29)) (.ret (.inr (0, (q2, q3))))
set_option maxRecDepth 100000 in
set_option maxHeartbeats 4000000 in
theorem mrg_step_eq : ∀ (u : mrg_U) (v : mrg_V), (evalC Try.prog (evalB Try.prog ruA_S56 (opens []) ruB_L56 7).1 (evalB Try.prog ruA_S56 (opens []) ruB_L56 7).2 (opens []) (ruB_L56 35) 100000 (0 :: [0, 1, 0, 1, 1]) (loopOf (bodyOf Try.prog 35) [1, 1, 0, 1, 0]) (mrg_St u v) []).bind (finF [0, 1, 4, 5, 6, 10, 11, 12, 13, 14, 15, 16, 17, 18, 19, 20, 21, 22, 23, 24, 25, 26, 27, 28, 29, 30, 31, 32, 33, 34, 35, 36, 37, 38, 39, 40, 41, 42, 43, 44, 45] [⟨980, some 3, 0, 0, 38, (.prod (.int .i64) (.int .i64))⟩] [980] [1029] 1005) = (mrg_step u v).bind (outA (mrg_St u) [.exit 0]) := by
  rintro ⟨q0, q1⟩ ⟨q2, q3⟩
  kernel_rfl
noncomputable def mrg_rd (b : Bool) (o2 : Option AV) (o3 : Option AV) (o7 : Option AV) (o8 : Option AV) (o9 : Option AV) (own : Own) : Option (mrg_U × mrg_V) := zrT b <| zrO o2 fun za1 => zrA1 za1 fun zc2 => zrNil zc2 <| zrO o3 fun za3 => zrA1 za3 fun zc4 => zrSl 980 0 (none) zc4 <| zrO o7 fun za5 => zrA1 za5 fun zc6 => zrD (.prod (.int .i64) (.int .i64)) zc6 fun q0 => zrO o8 fun za7 => zrA1 za7 fun zc8 => zrI .i64 zc8 fun q1 => zrO o9 fun za9 => zrA1 za9 fun zc10 => zrI .i64 zc10 fun q2 => zrL own fun zq11 zw12 => zrKey 980 zq11 fun zk13 => zrR true 38 (.prod (.int .i64) (.int .i64)) zk13 fun q3 => zrN zw12 <| some ((q0, q1), (q2, q3))
noncomputable def mrg_can (st : Stt) : Stt := canA [0, 1, 4, 5, 6, 10, 11, 12, 13, 14, 15, 16, 17, 18, 19, 20, 21, 22, 23, 24, 25, 26, 27, 28, 29, 30, 31, 32, 33, 34, 35, 36, 37, 38, 39, 40, 41, 42, 43, 44, 45] [⟨980, some 3, 0, 0, 38, (.prod (.int .i64) (.int .i64))⟩] [980] [1029] 1005 st
noncomputable def mrg_cok (st : Stt) : Bool := canAok [0, 1, 4, 5, 6, 10, 11, 12, 13, 14, 15, 16, 17, 18, 19, 20, 21, 22, 23, 24, 25, 26, 27, 28, 29, 30, 31, 32, 33, 34, 35, 36, 37, 38, 39, 40, 41, 42, 43, 44, 45] [⟨980, some 3, 0, 0, 38, (.prod (.int .i64) (.int .i64))⟩] [980] [1029] 1005 st
noncomputable def mrg_read (st : Stt) : Option (mrg_U × mrg_V) := mrg_rd (mrg_cok st && (staysA [⟨980, some 3, 0, 0, 38, (.prod (.int .i64) (.int .i64))⟩] [980] st.own && juAll [0, 1, 4, 5, 6, 10, 11, 12, 13, 14, 15, 16, 17, 18, 19, 20, 21, 22, 23, 24, 25, 26, 27, 28, 29, 30, 31, 32, 33, 34, 35, 36, 37, 38, 39, 40, 41, 42, 43, 44, 45] (mrg_can st).tm 46)) (mrg_can st).tm[2]? (mrg_can st).tm[3]? (mrg_can st).tm[7]? (mrg_can st).tm[8]? (mrg_can st).tm[9]? (mrg_can st).own
set_option maxRecDepth 100000 in
set_option maxHeartbeats 4000000 in
theorem mrg_rd_ok {b : Bool} {tm : List AV} {own : Own} {u : mrg_U} {v : mrg_V} (hj : b = true → juAll [0, 1, 4, 5, 6, 10, 11, 12, 13, 14, 15, 16, 17, 18, 19, 20, 21, 22, 23, 24, 25, 26, 27, 28, 29, 30, 31, 32, 33, 34, 35, 36, 37, 38, 39, 40, 41, 42, 43, 44, 45] tm 46 = true) (h : mrg_rd b tm[2]? tm[3]? tm[7]? tm[8]? tm[9]? own = some (u, v)) : b = true ∧ tm = (mrg_St u v).tm ∧ own = (mrg_St u v).own := by
  unfold mrg_rd at h
  obtain ⟨rfl, h0⟩ := zrT_some h
  obtain ⟨za1, e2, h1⟩ := zrO_some h0
  obtain ⟨zc2, rfl, h2⟩ := zrA1_some h1
  obtain ⟨rfl, h3⟩ := zrNil_some h2
  obtain ⟨za3, e3, h4⟩ := zrO_some h3
  obtain ⟨zc4, rfl, h5⟩ := zrA1_some h4
  obtain ⟨rfl, h6⟩ := zrSl_some h5
  obtain ⟨za5, e7, h7⟩ := zrO_some h6
  obtain ⟨zc6, rfl, h8⟩ := zrA1_some h7
  obtain ⟨q0, rfl, h9⟩ := zrD_some h8
  obtain ⟨za7, e8, h10⟩ := zrO_some h9
  obtain ⟨zc8, rfl, h11⟩ := zrA1_some h10
  obtain ⟨q1, rfl, h12⟩ := zrI_some h11
  obtain ⟨za9, e9, h13⟩ := zrO_some h12
  obtain ⟨zc10, rfl, h14⟩ := zrA1_some h13
  obtain ⟨q2, rfl, h15⟩ := zrI_some h14
  obtain ⟨zq11, zw12, rfl, h16⟩ := zrL_some h15
  obtain ⟨zk13, rfl, h17⟩ := zrKey_some h16
  obtain ⟨q3, rfl, h18⟩ := zrR_some h17
  obtain ⟨rfl, h19⟩ := zrN_some h18
  have h := Option.some.inj h19
  have hu := congrArg Prod.fst h
  have hv := congrArg Prod.snd h
  dsimp only at hu hv
  subst hu
  subst hv
  exact ⟨rfl, (tm_fill (hj rfl) (Lv := [(2, .one (.v false (Value.slice none (0 : Nat) (0 : Nat)))), (3, .one (.s false 980 0 (none))), (7, .one (.d false false (.prod (.int .i64) (.int .i64)) q0)), (8, .one (.v false (.int .i64 q1))), (9, .one (.v false (.int .i64 q2)))]) (by kernel_rfl) ⟨e2, e3, e7, e8, e9, trivial⟩).trans (by kernel_rfl), rfl⟩
theorem mrg_read_ok (st : Stt) (u : mrg_U) (v : mrg_V) (h : mrg_read st = some (u, v)) : mrg_cok st = true ∧ staysA [⟨980, some 3, 0, 0, 38, (.prod (.int .i64) (.int .i64))⟩] [980] st.own = true ∧ mrg_can st = mrg_St u v := by
  obtain ⟨h1, h2, h3⟩ := mrg_rd_ok (fun hb => by rw [Bool.and_eq_true, Bool.and_eq_true] at hb; exact hb.2.2) h
  rw [Bool.and_eq_true, Bool.and_eq_true] at h1
  refine ⟨h1.1, h1.2.1, ?_⟩
  have e : mrg_can st = ⟨(mrg_can st).tm, (mrg_can st).own, 1005⟩ := by kernel_rfl
  rw [e, h2, h3]
  rfl
noncomputable def mrg_cond (u : mrg_U) (v : mrg_V) : Bool := runC (mrg_step u) v
noncomputable def mrg_g (u : mrg_U) (v : mrg_V) : Nat × mrg_V := runG (mrg_step u) v
theorem mrg_hg : ∀ (u : mrg_U) (v : mrg_V), mrg_cond u v = true → loopN (mrg_step u) ((fun u v => runF (mrg_step u) v) u v) v = some (mrg_g u v) := by
  exact fun u v h => run_hg h
noncomputable def mrg_m (st : Stt) : Option (Tr (Ex × Stt)) := sumM mrg_read mrg_cond mrg_St mrg_g [(0, .exit 0)] st
noncomputable def ruB_L57 : FuncId → Loops := addL 35 [0, 1, 0, 1, 1] mrg_m ruB_L56
set_option maxRecDepth 100000 in
set_option maxHeartbeats 4000000 in
theorem ruB_L57_ok : LoopsOK Try.prog ruB_L57 :=
  loop_sumF (body := (bodyOf Try.prog 35)) (c := (loopOf (bodyOf Try.prog 35) [1, 1, 0, 1, 0])) (kinds := [.exit 0]) (allow := [(0, .exit 0)]) (St := mrg_St) (step := mrg_step) (W := [0, 1, 4, 5, 6, 10, 11, 12, 13, 14, 15, 16, 17, 18, 19, 20, 21, 22, 23, 24, 25, 26, 27, 28, 29, 30, 31, 32, 33, 34, 35, 36, 37, 38, 39, 40, 41, 42, 43, 44, 45]) (As := [⟨980, some 3, 0, 0, 38, (.prod (.int .i64) (.int .i64))⟩]) (ks := [980]) (dd := [1029]) (nx := 1005) (n := 100000) (g := mrg_g) (cond := mrg_cond) (fuel := (fun u v => runF (mrg_step u) v)) (read := mrg_read) (by kernel_rfl) (ruA_S56_ok) (ruB_L56_ok) 7 ⟨Try.f35, by kernel_rfl, by kernel_rfl⟩ (by kernel_rfl) (by kernel_rfl) (by kernel_rfl) mrg_step_eq mrg_hg mrg_read_ok
noncomputable def lenV (L : Rl) : Int := bif valB L then lenR L else 0
noncomputable def memV (L : Rl) (x : Int) : Bool := bif valB L then memB L x else false
def eqRl (A B : Rl) : Bool := decide (A = B)
def fewR (L : Rl) : Rl := L.take 40
noncomputable def mvOk (L : Rl) (a b : Int) : Bool := valB L && (decide (L.length ≤ 100000) && (decide (-2097152 ≤ a) && (decide (a ≤ 2097152) && (decide (-2097152 ≤ b) && decide (b ≤ 2097152)))))
theorem lna_run {L : Rl} (h : valR L) (hn : L.length ≤ 100000) : lna_cond (0, L, (L.length : Int)) (0, 0) = true ∧ lna_g (0, L, (L.length : Int)) (0, 0) = (0, (lenR L, (L.length : Int))) := by
  have R := run_steps (step := lna_step (0, L, (L.length : Int))) (St := fun j => (lenR (L.take j), (j : Int))) (n := L.length) (t := (0, (lenR L, (L.length : Int)))) (by
    simp only [lna_step, Tr.val, Int.lt_irrefl, decide_false, cond_false, List.take_length]) L.length 0 (Nat.zero_add _) (fun j _ hj => by
    have g := good_in h hj
    have b := lenR_bd h j (by omega)
    have w2 : IntKind.wrap IntKind.i64 (L[j].2 - L[j].1) = L[j].2 - L[j].1 := wid (by omega) (by omega)
    have w3 : IntKind.wrap IntKind.i64 (lenR (L.take j) + (L[j].2 - L[j].1)) = lenR (L.take j) + (L[j].2 - L[j].1) := wid (by omega) (by omega)
    rw [lenR_take hj]
    simp only [lna_step, Tr.val, lt_t hj, nn_t, el_r hj, w2, w3, wi1 hj (show (L.length : Int) ≤ 9223372036854775806 by omega), Bool.and_self, cond_true])
  exact R
theorem lnb_run {L : Rl} (hn : L.length ≤ 100000) : lnb_cond (L, 0) (0, 0) = true ∧ ∃ j, lnb_g (L, 0) (0, 0) = (0, (lenV L, j)) := by
  cases hv : valB L
  · have e : lenV L = 0 := by unfold lenV; rw [hv]; rfl
    rw [e]
    have R := run_end (step := lnb_step (L, 0)) (v := (0, 0)) (t := (0, (0, 0))) (by
      have c : decide (L.length ≤ 100000) = true := decide_eq_true hn
      simp only [lnb_step, Tr.val, c, hv, cond_true, cond_false, Bool.cond_self])
    exact ⟨R.1, 0, R.2⟩
  · have h := valB_iff.1 hv
    have e : lenV L = lenR L := by unfold lenV; rw [hv]; rfl
    rw [e]
    have R := run_steps (step := lnb_step (L, 0)) (St := fun j => (lenR (L.take j), (j : Int))) (n := L.length) (t := (0, (lenR L, (L.length : Int)))) (by
      simp only [lnb_step, Tr.val, Int.lt_irrefl, decide_false, cond_false, List.take_length]) L.length 0 (Nat.zero_add _) (fun j _ hj => by
      have g := good_in h hj
      have b := lenR_bd h j (by omega)
      have c : decide (L.length ≤ 100000) = true := decide_eq_true hn
      have w2 : IntKind.wrap IntKind.i64 (lenR (L.take j) + L[j].2) = lenR (L.take j) + L[j].2 := wid (by omega) (by omega)
      have w3 : IntKind.wrap IntKind.i64 (lenR (L.take j) + L[j].2 - L[j].1) = lenR (L.take j) + (L[j].2 - L[j].1) := by rw [wid (by omega) (by omega)]; omega
      rw [lenR_take hj]
      simp only [lnb_step, Tr.val, lt_t hj, nn_t, c, hv, el_r hj, w2, w3, wi1 hj (show (L.length : Int) ≤ 9223372036854775806 by omega), Bool.and_self, cond_true])
    exact ⟨R.1, _, R.2⟩
theorem memB_of {L : Rl} {x : Int} (f : Int × Int → Bool) (hf : f = fun r => !(bif decide (r.1 ≤ x) then decide (x < r.2) else false)) : (L.all f) = !memB L x := by
  subst hf
  unfold memB
  rw [List.all_eq_not_any_not]
  simp
theorem cta_run {L : Rl} {x : Int} (hn : L.length ≤ 100000) : cta_cond (x, L, (L.length : Int)) (false, 0) = true ∧ ((memB L x = false ∧ cta_g (x, L, (L.length : Int)) (false, 0) = (1, (false, (L.length : Int)))) ∨ (memB L x = true ∧ ∃ j : Nat, cta_g (x, L, (L.length : Int)) (false, 0) = (0, (true, (j : Int))))) := by
  obtain ⟨h1, h2⟩ := run_all (step := cta_step (x, L, (L.length : Int))) (St := fun i => (false, (i : Int))) (Lv := fun i => (0, (true, (i : Int)))) (t := (1, (false, (L.length : Int)))) (l := L) (p := fun r => !(bif decide (r.1 ≤ x) then decide (x < r.2) else false)) (fun i hi => by
    simp only [cta_step, Tr.val, lt_t hi, nn_t, el_r hi, wi1 hi (show (L.length : Int) ≤ 9223372036854775806 by omega), Bool.and_self, cond_true]
    cases (bif decide (L[i].1 ≤ x) then decide (x < L[i].2) else false) <;> rfl) (by simp only [cta_step, Tr.val, Int.lt_irrefl, decide_false, cond_false])
  refine ⟨h1, ?_⟩
  rw [memB_of _ rfl] at h2
  rcases h2 with ⟨h, h3⟩ | ⟨h, j, _, _, _, h4⟩
  · exact .inl ⟨by simpa using h, h3⟩
  · exact .inr ⟨by simpa using h, j, h4⟩
theorem inn_run {L : Rl} {x : Int} (hn : L.length ≤ 100000) : inn_cond (L, x) (false, 0) = true ∧ ((memB L x = false ∧ inn_g (L, x) (false, 0) = (1, (false, (L.length : Int)))) ∨ (memB L x = true ∧ ∃ j : Nat, inn_g (L, x) (false, 0) = (0, (true, (j : Int))))) := by
  obtain ⟨h1, h2⟩ := run_all (step := inn_step (L, x)) (St := fun i => (false, (i : Int))) (Lv := fun i => (0, (true, (i : Int)))) (t := (1, (false, (L.length : Int)))) (l := L) (p := fun r => !(bif decide (r.1 ≤ x) then decide (x < r.2) else false)) (fun i hi => by
    simp only [inn_step, Tr.val, lt_t hi, nn_t, el_r hi, wi1 hi (show (L.length : Int) ≤ 9223372036854775806 by omega), Bool.and_self, Bool.cond_self, cond_true]
    cases (bif decide (L[i].1 ≤ x) then decide (x < L[i].2) else false) <;> rfl) (by simp only [inn_step, Tr.val, Int.lt_irrefl, decide_false, cond_false])
  refine ⟨h1, ?_⟩
  rw [memB_of _ rfl] at h2
  rcases h2 with ⟨h, h3⟩ | ⟨h, j, _, _, _, h4⟩
  · exact .inl ⟨by simpa using h, h3⟩
  · exact .inr ⟨by simpa using h, j, h4⟩
theorem eq2 (a b : Int × Int) : (a.1 == b.1 && (a.2 == b.2 && true)) = decide (a = b) := by
  obtain ⟨a1, a2⟩ := a
  obtain ⟨b1, b2⟩ := b
  rw [Bool.eq_iff_iff]
  simp
theorem sme_run {A B : Rl} (hl : A.length = B.length) (hn : A.length ≤ 100000) : sme_cond (A, B) (false, 0) = true ∧ ((A = B ∧ sme_g (A, B) (false, 0) = (1, (false, (A.length : Int)))) ∨ (A ≠ B ∧ ∃ j : Nat, sme_g (A, B) (false, 0) = (0, (false, (j : Int))))) := by
  obtain ⟨h1, h2⟩ := run_scan (step := sme_step (A, B)) (St := fun i => (false, (i : Int))) (Lv := fun i => (0, (false, (i : Int)))) (t := (1, (false, (A.length : Int)))) (n := A.length) (p := fun i => decide (el_ii A i = el_ii B i)) (fun i hi => by
    have hi2 : i < B.length := by omega
    simp only [sme_step, Tr.val, lt_t hi, lt_t hi2, nn_t, wi1 hi (show (A.length : Int) ≤ 9223372036854775806 by omega), eq2, Bool.and_self, cond_true]
    cases decide (el_ii A (i : Int) = el_ii B (i : Int)) <;> rfl) (by simp only [sme_step, Tr.val, Int.lt_irrefl, decide_false, cond_false])
  refine ⟨h1, ?_⟩
  rcases h2 with ⟨h, h3⟩ | ⟨j, hj, hp, _, h4⟩
  · refine .inl ⟨list_eq_of hl fun i a b => ?_, h3⟩
    have := of_decide_eq_true (h i a)
    rwa [el_r a, el_r b] at this
  · refine .inr ⟨fun e => ?_, j, h4⟩
    subst e
    simp at hp
theorem mov_run {L : Rl} {a b : Int} (h : mvOk L a b = true) : mov_cond (a, b, L, (L.length : Int)) (0, []) = true ∧ mov_g (a, b, L, (L.length : Int)) (0, []) = (0, ((L.length : Int), mvR L a b)) := by
  unfold mvOk at h
  simp only [Bool.and_eq_true, decide_eq_true_eq] at h
  obtain ⟨hv, hn, a1, a2, b1, b2⟩ := h
  have hv := valB_iff.1 hv
  have R := run_steps (step := mov_step (a, b, L, (L.length : Int))) (St := fun j => ((j : Int), mvR (L.take j) a b)) (n := L.length) (t := (0, ((L.length : Int), mvR L a b))) (by
    simp only [mov_step, Tr.val, Int.lt_irrefl, decide_false, cond_false, List.take_length]) L.length 0 (Nat.zero_add _) (fun j _ hj => by
    have g := good_in hv hj
    have w2 : IntKind.wrap IntKind.i64 (L[j].1 + a) = L[j].1 + a := wid (by omega) (by omega)
    have w3 : IntKind.wrap IntKind.i64 (L[j].2 + b) = L[j].2 + b := wid (by omega) (by omega)
    have hl := mvR_len (L.take j) a b
    rw [List.length_take] at hl
    obtain ⟨r1, r2⟩ := room16 (n := (mvR (L.take j) a b).length + 1) (by omega)
    rw [mvR_take hj]
    simp only [mov_step, Tr.val, lt_t hj, nn_t, el_r hj, w2, w3, r1, r2, wi1 hj (show (L.length : Int) ≤ 9223372036854775806 by omega), Bool.and_self, cond_true]
    cases decide (L[j].1 + a < L[j].2 + b)
    · simp
    · rfl)
  exact R
theorem mrg_run {L : Rl} (hn : L.length ≤ 100000) : mrg_cond (L, (L.length : Int)) (0, []) = true ∧ mrg_g (L, (L.length : Int)) (0, []) = (0, ((L.length : Int), mrgR L)) := by
  have R := run_steps (step := mrg_step (L, (L.length : Int))) (St := fun j => ((j : Int), mrgR (L.take j))) (n := L.length) (t := (0, ((L.length : Int), mrgR L))) (by
    simp only [mrg_step, Tr.val, Int.lt_irrefl, decide_false, cond_false, List.take_length]) L.length 0 (Nat.zero_add _) (fun j _ hj => by
    have hl := mrgR_len (L.take j)
    rw [List.length_take] at hl
    rw [mrgR_take hj]
    generalize mrgR (L.take j) = acc at *
    obtain ⟨r1, r2⟩ := room16 (n := acc.length + 1) (by omega)
    have w1 := wi1 hj (show (L.length : Int) ≤ 9223372036854775806 by omega)
    cases hc : acc.length with
    | zero =>
      have e : acc = [] := List.length_eq_zero_iff.1 hc
      subst e
      have e1 : IntKind.wrap IntKind.i64 (((0 : Nat) : Int) - (1 : Int)) = -1 := by rw [wid (by omega) (by omega)]; omega
      have d1 : decide ((-1 : Int) ≥ (0 : Int)) = false := decide_eq_false (by omega)
      have r1' : decide ((List.length ([] : Rl) + 1) * 16 ≤ maxNew) = true := r1
      have r2' : decide (List.length ([] : Rl) + 1 ≤ maxLen) = true := r2
      simp only [mrg_step, Tr.val, lt_t hj, nn_t, el_r hj, List.length_nil, e1, d1, w1, Bool.and_self, cond_true, cond_false]
      rfl
    | succ n =>
      have hlt : n < acc.length := by omega
      have e1 : IntKind.wrap IntKind.i64 (((n + 1 : Nat) : Int) - (1 : Int)) = (n : Int) := by rw [wid (by omega) (by omega)]; omega
      have d1 : decide ((n : Int) ≥ (0 : Int)) = true := decide_eq_true (by omega)
      have d2 : decide ((n : Int) < ((n + 1 : Nat) : Int)) = true := decide_eq_true (by omega)
      have d3 : decide (n < n + 1) = true := decide_eq_true (by omega)
      have el : lastR acc = acc[n] := by
        unfold lastR
        rw [hc, List.getD, Nat.add_sub_cancel, List.getElem?_eq_getElem hlt]; rfl
      have d4 : decide (0 < acc.length) = true := decide_eq_true (by omega)
      rw [hc] at r1 r2
      unfold mstR
      rw [el, d4, cond_true]
      simp only [mrg_step, Tr.val, lt_t hj, nn_t, el_r hj, hc, e1, d1, d2, d3, el_r hlt, w1, r1, r2, Int.toNat_natCast, Bool.and_self, cond_true, Nat.add_sub_cancel]
      have mx : (if L[j].2 > acc[n].2 then L[j].2 else acc[n].2) = max acc[n].2 L[j].2 := ite_max _ _
      cases decide (L[j].1 ≤ acc[n].2)
      · rfl
      · simp only [cond_true, mx])
  exact R
set_option maxRecDepth 100000 in
theorem lnac_tree (L : (Ty.list (.prod (.int .i64) (.int .i64))).den) : evalF Try.prog ruA_S56 (opens []) ruB_L57 9 14 [.one (.d false false (.prod (.int .i64) (.int .i64)) L)] = .br (((decide (List.length L ≤ (100000 : Nat))) && (bif !valB L then true else ((lna_cond ((0 : Int), L, (↑(List.length L) : Int)) ((0 : Int), (0 : Int))) && (Nat.beq (Prod.fst (lna_g ((0 : Int), L, (↑(List.length L) : Int)) ((0 : Int), (0 : Int)))) (0 : Nat)))))) (.ret (.one (.v false (.int .i64 (bif !valB L then (0 : Int) else Prod.fst (Prod.snd (lna_g ((0 : Int), L, (↑(List.length L) : Int)) ((0 : Int), (0 : Int))))))))) (.bad 116) := by kernel_rfl
theorem lnac_val (L : (Ty.list (.prod (.int .i64) (.int .i64))).den) (hc : (decide (L.length ≤ 100000)) = true) : (.br (((decide (List.length L ≤ (100000 : Nat))) && (bif !valB L then true else ((lna_cond ((0 : Int), L, (↑(List.length L) : Int)) ((0 : Int), (0 : Int))) && (Nat.beq (Prod.fst (lna_g ((0 : Int), L, (↑(List.length L) : Int)) ((0 : Int), (0 : Int)))) (0 : Nat)))))) (.ret (.one (.v false (.int .i64 (bif !valB L then (0 : Int) else Prod.fst (Prod.snd (lna_g ((0 : Int), L, (↑(List.length L) : Int)) ((0 : Int), (0 : Int))))))))) (.bad 116) : Tr AV).val = some (.one (.v false (.int .i64 (lenV L)))) := by
  have hn := of_decide_eq_true hc
  unfold lenV
  show cond _ _ _ = _
  cases hv : valB L
  · simp [hn, Tr.val]
  · obtain ⟨v1, v2⟩ := lna_run (valB_iff.1 hv) hn
    simp [hn, v1, v2, Nat.beq, Tr.val]
noncomputable def lnac_g : List AV → Option (Tr AV)
  | [.one (.d _ _ (.prod (.int .i64) (.int .i64)) L)] => some (.br (decide (L.length ≤ 100000)) (.ret (.one (.v false (.int .i64 (lenV L))))) (.bad 900))
  | _ => none
set_option maxHeartbeats 4000000 in
theorem lnac_ok : FunOK Try.prog 14 lnac_g := by
  refine fun_ok (by kernel_rfl) (ruA_S56_ok) (ruB_L57_ok) 9 (On := (opens [])) (fun args t h => ?_)
  unfold lnac_g at h
  split at h
  · rename_i _ _ L
    simp only [Option.some.injEq] at h
    subst h
    refine ⟨[.one (.d false false (.prod (.int .i64) (.int .i64)) L)], rfl, fun fr w us h => h, fun r hr => ?_⟩
    obtain ⟨hc, hr⟩ := br_bad hr
    simp only [Tr.val, Option.some.injEq] at hr
    subst hr
    rw [lnac_tree]
    exact lnac_val L hc
  · cases h
noncomputable def ruB_S58 : Sums := addS 14 lnac_g ruA_S56
theorem ruB_S58_ok : SumOK Try.prog ruB_S58 := addS_ok (lnac_ok) (ruA_S56_ok)
set_option maxRecDepth 100000 in
theorem lnbc_tree (L : (Ty.list (.prod (.int .i64) (.int .i64))).den) : evalF Try.prog ruB_S58 (opens []) ruB_L57 9 15 [.one (.d false false (.prod (.int .i64) (.int .i64)) L)] = .br (((lnb_cond (L, (0 : Int)) ((0 : Int), (0 : Int))) && (Nat.beq (Prod.fst (lnb_g (L, (0 : Int)) ((0 : Int), (0 : Int)))) (0 : Nat)))) (.ret (.one (.v false (.int .i64 (Prod.fst (Prod.snd (lnb_g (L, (0 : Int)) ((0 : Int), (0 : Int))))))))) (.bad 116) := by kernel_rfl
theorem lnbc_val (L : (Ty.list (.prod (.int .i64) (.int .i64))).den) (hc : (decide (L.length ≤ 100000)) = true) : (.br (((lnb_cond (L, (0 : Int)) ((0 : Int), (0 : Int))) && (Nat.beq (Prod.fst (lnb_g (L, (0 : Int)) ((0 : Int), (0 : Int)))) (0 : Nat)))) (.ret (.one (.v false (.int .i64 (Prod.fst (Prod.snd (lnb_g (L, (0 : Int)) ((0 : Int), (0 : Int))))))))) (.bad 116) : Tr AV).val = some (.one (.v false (.int .i64 (lenV L)))) := by
  have hn := of_decide_eq_true hc
  obtain ⟨v1, j, v2⟩ := lnb_run hn
  show cond _ _ _ = _
  simp [hn, v1, v2, Nat.beq, Tr.val]
noncomputable def lnbc_g : List AV → Option (Tr AV)
  | [.one (.d _ _ (.prod (.int .i64) (.int .i64)) L)] => some (.br (decide (L.length ≤ 100000)) (.ret (.one (.v false (.int .i64 (lenV L))))) (.bad 900))
  | _ => none
set_option maxHeartbeats 4000000 in
theorem lnbc_ok : FunOK Try.prog 15 lnbc_g := by
  refine fun_ok (by kernel_rfl) (ruB_S58_ok) (ruB_L57_ok) 9 (On := (opens [])) (fun args t h => ?_)
  unfold lnbc_g at h
  split at h
  · rename_i _ _ L
    simp only [Option.some.injEq] at h
    subst h
    refine ⟨[.one (.d false false (.prod (.int .i64) (.int .i64)) L)], rfl, fun fr w us h => h, fun r hr => ?_⟩
    obtain ⟨hc, hr⟩ := br_bad hr
    simp only [Tr.val, Option.some.injEq] at hr
    subst hr
    rw [lnbc_tree]
    exact lnbc_val L hc
  · cases h
noncomputable def ruB_S59 : Sums := addS 15 lnbc_g ruB_S58
theorem ruB_S59_ok : SumOK Try.prog ruB_S59 := addS_ok (lnbc_ok) (ruB_S58_ok)
set_option maxRecDepth 100000 in
theorem innc_tree (L : (Ty.list (.prod (.int .i64) (.int .i64))).den) (x : Int) : evalF Try.prog ruB_S59 (opens []) ruB_L57 9 38 [.one (.d false false (.prod (.int .i64) (.int .i64)) L), .one (.v false (.int .i64 x))] = .br (((inn_cond (L, x) (false, (0 : Int))) && (bif Nat.beq (Prod.fst (inn_g (L, x) (false, (0 : Int)))) (0 : Nat) then true else (Nat.beq (Prod.fst (inn_g (L, x) (false, (0 : Int)))) (1 : Nat))))) (.ret (.one (.v false (.bool (bif Nat.beq (Prod.fst (inn_g (L, x) (false, (0 : Int)))) (0 : Nat) then Prod.fst (Prod.snd (inn_g (L, x) (false, (0 : Int)))) else false))))) (.bad 116) := by kernel_rfl
theorem innc_val (L : (Ty.list (.prod (.int .i64) (.int .i64))).den) (x : Int) (hc : (decide (L.length ≤ 100000)) = true) : (.br (((inn_cond (L, x) (false, (0 : Int))) && (bif Nat.beq (Prod.fst (inn_g (L, x) (false, (0 : Int)))) (0 : Nat) then true else (Nat.beq (Prod.fst (inn_g (L, x) (false, (0 : Int)))) (1 : Nat))))) (.ret (.one (.v false (.bool (bif Nat.beq (Prod.fst (inn_g (L, x) (false, (0 : Int)))) (0 : Nat) then Prod.fst (Prod.snd (inn_g (L, x) (false, (0 : Int)))) else false))))) (.bad 116) : Tr AV).val = some (.one (.v false (.bool (memB L x)))) := by
  have hn := of_decide_eq_true hc
  obtain ⟨v1, v2⟩ := inn_run (x := x) hn
  show cond _ _ _ = _
  rcases v2 with ⟨h, g⟩ | ⟨h, j, g⟩
  · simp [hn, v1, g, h, Nat.beq, Tr.val]
  · simp [hn, v1, g, h, Nat.beq, Tr.val]
noncomputable def innc_g : List AV → Option (Tr AV)
  | [.one (.d _ _ (.prod (.int .i64) (.int .i64)) L), .one (.v _ (.int .i64 x))] => some (.br (decide (L.length ≤ 100000)) (.ret (.one (.v false (.bool (memB L x))))) (.bad 900))
  | _ => none
set_option maxHeartbeats 4000000 in
theorem innc_ok : FunOK Try.prog 38 innc_g := by
  refine fun_ok (by kernel_rfl) (ruB_S59_ok) (ruB_L57_ok) 9 (On := (opens [])) (fun args t h => ?_)
  unfold innc_g at h
  split at h
  · rename_i _ _ L _ x
    simp only [Option.some.injEq] at h
    subst h
    refine ⟨[.one (.d false false (.prod (.int .i64) (.int .i64)) L), .one (.v false (.int .i64 x))], rfl, fun fr w us h => h, fun r hr => ?_⟩
    obtain ⟨hc, hr⟩ := br_bad hr
    simp only [Tr.val, Option.some.injEq] at hr
    subst hr
    rw [innc_tree]
    exact innc_val L x hc
  · cases h
noncomputable def ruB_S60 : Sums := addS 38 innc_g ruB_S59
theorem ruB_S60_ok : SumOK Try.prog ruB_S60 := addS_ok (innc_ok) (ruB_S59_ok)
set_option maxRecDepth 100000 in
theorem ctac_tree (L : (Ty.list (.prod (.int .i64) (.int .i64))).den) (x : Int) : evalF Try.prog ruB_S60 (opens []) ruB_L57 9 16 [.one (.d false false (.prod (.int .i64) (.int .i64)) L), .one (.v false (.int .i64 x))] = .br (((decide (List.length L ≤ (100000 : Nat))) && (bif !valB L then true else ((cta_cond (x, L, (↑(List.length L) : Int)) (false, (0 : Int))) && (bif Nat.beq (Prod.fst (cta_g (x, L, (↑(List.length L) : Int)) (false, (0 : Int)))) (0 : Nat) then true else (Nat.beq (Prod.fst (cta_g (x, L, (↑(List.length L) : Int)) (false, (0 : Int)))) (1 : Nat))))))) (.ret (.one (.v false (.bool (bif !valB L then false else bif Nat.beq (Prod.fst (cta_g (x, L, (↑(List.length L) : Int)) (false, (0 : Int)))) (0 : Nat) then Prod.fst (Prod.snd (cta_g (x, L, (↑(List.length L) : Int)) (false, (0 : Int)))) else false))))) (.bad 116) := by kernel_rfl
theorem ctac_val (L : (Ty.list (.prod (.int .i64) (.int .i64))).den) (x : Int) (hc : (decide (L.length ≤ 100000)) = true) : (.br (((decide (List.length L ≤ (100000 : Nat))) && (bif !valB L then true else ((cta_cond (x, L, (↑(List.length L) : Int)) (false, (0 : Int))) && (bif Nat.beq (Prod.fst (cta_g (x, L, (↑(List.length L) : Int)) (false, (0 : Int)))) (0 : Nat) then true else (Nat.beq (Prod.fst (cta_g (x, L, (↑(List.length L) : Int)) (false, (0 : Int)))) (1 : Nat))))))) (.ret (.one (.v false (.bool (bif !valB L then false else bif Nat.beq (Prod.fst (cta_g (x, L, (↑(List.length L) : Int)) (false, (0 : Int)))) (0 : Nat) then Prod.fst (Prod.snd (cta_g (x, L, (↑(List.length L) : Int)) (false, (0 : Int)))) else false))))) (.bad 116) : Tr AV).val = some (.one (.v false (.bool (memV L x)))) := by
  have hn := of_decide_eq_true hc
  obtain ⟨v1, v2⟩ := cta_run (x := x) hn
  unfold memV
  show cond _ _ _ = _
  cases hv : valB L
  · simp [hn, Tr.val]
  · rcases v2 with ⟨h, g⟩ | ⟨h, j, g⟩
    · simp [hn, v1, g, h, Nat.beq, Tr.val]
    · simp [hn, v1, g, h, Nat.beq, Tr.val]
noncomputable def ctac_g : List AV → Option (Tr AV)
  | [.one (.d _ _ (.prod (.int .i64) (.int .i64)) L), .one (.v _ (.int .i64 x))] => some (.br (decide (L.length ≤ 100000)) (.ret (.one (.v false (.bool (memV L x))))) (.bad 900))
  | _ => none
set_option maxHeartbeats 4000000 in
theorem ctac_ok : FunOK Try.prog 16 ctac_g := by
  refine fun_ok (by kernel_rfl) (ruB_S60_ok) (ruB_L57_ok) 9 (On := (opens [])) (fun args t h => ?_)
  unfold ctac_g at h
  split at h
  · rename_i _ _ L _ x
    simp only [Option.some.injEq] at h
    subst h
    refine ⟨[.one (.d false false (.prod (.int .i64) (.int .i64)) L), .one (.v false (.int .i64 x))], rfl, fun fr w us h => h, fun r hr => ?_⟩
    obtain ⟨hc, hr⟩ := br_bad hr
    simp only [Tr.val, Option.some.injEq] at hr
    subst hr
    rw [ctac_tree]
    exact ctac_val L x hc
  · cases h
noncomputable def ruB_S61 : Sums := addS 16 ctac_g ruB_S60
theorem ruB_S61_ok : SumOK Try.prog ruB_S61 := addS_ok (ctac_ok) (ruB_S60_ok)
set_option maxRecDepth 100000 in
theorem ctbc_tree (L : (Ty.list (.prod (.int .i64) (.int .i64))).den) (x : Int) : evalF Try.prog ruB_S61 (opens []) ruB_L57 9 17 [.one (.d false false (.prod (.int .i64) (.int .i64)) L), .one (.v false (.int .i64 x))] = .br (((decide (List.length L ≤ (100000 : Nat))) && (bif valB L then (decide (List.length L ≤ (100000 : Nat))) else true))) (.ret (.one (.v false (.bool (bif valB L then memB L x else false))))) (.bad 116) := by kernel_rfl
theorem ctbc_val (L : (Ty.list (.prod (.int .i64) (.int .i64))).den) (x : Int) (hc : (decide (L.length ≤ 100000)) = true) : (.br (((decide (List.length L ≤ (100000 : Nat))) && (bif valB L then (decide (List.length L ≤ (100000 : Nat))) else true))) (.ret (.one (.v false (.bool (bif valB L then memB L x else false))))) (.bad 116) : Tr AV).val = some (.one (.v false (.bool (memV L x)))) := by
  have hn := of_decide_eq_true hc
  unfold memV
  show cond _ _ _ = _
  cases hv : valB L
  · simp [hn, Tr.val]
  · simp [hn, Tr.val]
noncomputable def ctbc_g : List AV → Option (Tr AV)
  | [.one (.d _ _ (.prod (.int .i64) (.int .i64)) L), .one (.v _ (.int .i64 x))] => some (.br (decide (L.length ≤ 100000)) (.ret (.one (.v false (.bool (memV L x))))) (.bad 900))
  | _ => none
set_option maxHeartbeats 4000000 in
theorem ctbc_ok : FunOK Try.prog 17 ctbc_g := by
  refine fun_ok (by kernel_rfl) (ruB_S61_ok) (ruB_L57_ok) 9 (On := (opens [])) (fun args t h => ?_)
  unfold ctbc_g at h
  split at h
  · rename_i _ _ L _ x
    simp only [Option.some.injEq] at h
    subst h
    refine ⟨[.one (.d false false (.prod (.int .i64) (.int .i64)) L), .one (.v false (.int .i64 x))], rfl, fun fr w us h => h, fun r hr => ?_⟩
    obtain ⟨hc, hr⟩ := br_bad hr
    simp only [Tr.val, Option.some.injEq] at hr
    subst hr
    rw [ctbc_tree]
    exact ctbc_val L x hc
  · cases h
noncomputable def ruB_S62 : Sums := addS 17 ctbc_g ruB_S61
theorem ruB_S62_ok : SumOK Try.prog ruB_S62 := addS_ok (ctbc_ok) (ruB_S61_ok)
set_option maxRecDepth 100000 in
theorem fewc_tree (L : (Ty.list (.prod (.int .i64) (.int .i64))).den) : evalF Try.prog ruB_S62 (opens []) ruB_L57 9 8 [.one (.d false false (.prod (.int .i64) (.int .i64)) L)] = .br ((bif decide ((↑(List.length L) : Int) > (40 : Int)) then (decide ((0 : Int) ≤ (0 : Int)) && decide ((0 : Int) ≤ (40 : Int)) && decide ((40 : Int) ≤ (↑(List.length L) : Int))) else true)) (.ret (.one (.d false false (.prod (.int .i64) (.int .i64)) (bif decide ((↑(List.length L) : Int) > (40 : Int)) then cutD L none (some (Operand.const (Value.int IntKind.i64 (40 : Int)))) (0 : Int) (40 : Int) else L)))) (.bad 116) := by kernel_rfl
set_option maxHeartbeats 4000000 in
theorem fewc_val (L : (Ty.list (.prod (.int .i64) (.int .i64))).den) : (.br ((bif decide ((↑(List.length L) : Int) > (40 : Int)) then (decide ((0 : Int) ≤ (0 : Int)) && decide ((0 : Int) ≤ (40 : Int)) && decide ((40 : Int) ≤ (↑(List.length L) : Int))) else true)) (.ret (.one (.d false false (.prod (.int .i64) (.int .i64)) (bif decide ((↑(List.length L) : Int) > (40 : Int)) then cutD L none (some (Operand.const (Value.int IntKind.i64 (40 : Int)))) (0 : Int) (40 : Int) else L)))) (.bad 116) : Tr AV).val = some (.one (.d false false (.prod (.int .i64) (.int .i64)) (fewR L))) := by
  unfold fewR
  show cond _ _ _ = _
  by_cases h : L.length > 40
  · have d : decide ((L.length : Int) > (40 : Int)) = true := decide_eq_true (by omega)
    have d2 : decide ((40 : Int) ≤ (L.length : Int)) = true := decide_eq_true (by omega)
    simp only [d, d2, cond_true]
    rfl
  · have d : decide ((L.length : Int) > (40 : Int)) = false := decide_eq_false (by omega)
    rw [List.take_of_length_le (by omega)]
    simp only [d, cond_true, cond_false]
    rfl
noncomputable def fewc_g : List AV → Option (Tr AV)
  | [.one (.d _ _ (.prod (.int .i64) (.int .i64)) L)] => some (.ret (.one (.d false false (.prod (.int .i64) (.int .i64)) (fewR L))))
  | _ => none
set_option maxHeartbeats 4000000 in
theorem fewc_ok : FunOK Try.prog 8 fewc_g := by
  refine fun_ok (by kernel_rfl) (ruB_S62_ok) (ruB_L57_ok) 9 (On := (opens [])) (fun args t h => ?_)
  unfold fewc_g at h
  split at h
  · rename_i _ _ L
    simp only [Option.some.injEq] at h
    subst h
    refine ⟨[.one (.d false false (.prod (.int .i64) (.int .i64)) L)], rfl, fun fr w us h => h, fun r hr => ?_⟩
    simp only [Tr.val, Option.some.injEq] at hr
    subst hr
    rw [fewc_tree]
    exact fewc_val L
  · cases h
noncomputable def ruB_S63 : Sums := addS 8 fewc_g ruB_S62
theorem ruB_S63_ok : SumOK Try.prog ruB_S63 := addS_ok (fewc_ok) (ruB_S62_ok)
set_option maxRecDepth 100000 in
theorem smec_tree (A : (Ty.list (.prod (.int .i64) (.int .i64))).den) (B : (Ty.list (.prod (.int .i64) (.int .i64))).den) : evalF Try.prog ruB_S63 (opens []) ruB_L57 9 11 [.one (.d false false (.prod (.int .i64) (.int .i64)) A), .one (.d false false (.prod (.int .i64) (.int .i64)) B)] = .br ((bif (↑(List.length A) : Int) != (↑(List.length B) : Int) then true else ((sme_cond (A, B) (false, (0 : Int))) && (bif Nat.beq (Prod.fst (sme_g (A, B) (false, (0 : Int)))) (0 : Nat) then true else (Nat.beq (Prod.fst (sme_g (A, B) (false, (0 : Int)))) (1 : Nat)))))) (.ret (.one (.v false (.bool (bif (↑(List.length A) : Int) != (↑(List.length B) : Int) then false else bif Nat.beq (Prod.fst (sme_g (A, B) (false, (0 : Int)))) (0 : Nat) then Prod.fst (Prod.snd (sme_g (A, B) (false, (0 : Int)))) else true))))) (.bad 116) := by kernel_rfl
theorem smec_val (A : (Ty.list (.prod (.int .i64) (.int .i64))).den) (B : (Ty.list (.prod (.int .i64) (.int .i64))).den) (hc : (decide (A.length ≤ 100000)) = true) : (.br ((bif (↑(List.length A) : Int) != (↑(List.length B) : Int) then true else ((sme_cond (A, B) (false, (0 : Int))) && (bif Nat.beq (Prod.fst (sme_g (A, B) (false, (0 : Int)))) (0 : Nat) then true else (Nat.beq (Prod.fst (sme_g (A, B) (false, (0 : Int)))) (1 : Nat)))))) (.ret (.one (.v false (.bool (bif (↑(List.length A) : Int) != (↑(List.length B) : Int) then false else bif Nat.beq (Prod.fst (sme_g (A, B) (false, (0 : Int)))) (0 : Nat) then Prod.fst (Prod.snd (sme_g (A, B) (false, (0 : Int)))) else true))))) (.bad 116) : Tr AV).val = some (.one (.v false (.bool (eqRl A B)))) := by
  have hn := of_decide_eq_true hc
  unfold eqRl
  show cond _ _ _ = _
  by_cases hl : A.length = B.length
  · obtain ⟨v1, v2⟩ := sme_run hl hn
    have b : ((A.length : Int) != (B.length : Int)) = false := by rw [hl]; exact bne_self_eq_false _
    rcases v2 with ⟨h, g⟩ | ⟨h, j, g⟩
    · subst h
      simp [v1, g, Nat.beq, Tr.val]
    · simp [b, v1, g, h, Nat.beq, Tr.val]
  · have b : ((A.length : Int) != (B.length : Int)) = true := by simp; omega
    have e : ¬ A = B := fun e => hl (by rw [e])
    simp [b, e, Tr.val]
noncomputable def smec_g : List AV → Option (Tr AV)
  | [.one (.d _ _ (.prod (.int .i64) (.int .i64)) A), .one (.d _ _ (.prod (.int .i64) (.int .i64)) B)] => some (.br (decide (A.length ≤ 100000)) (.ret (.one (.v false (.bool (eqRl A B))))) (.bad 900))
  | _ => none
set_option maxHeartbeats 4000000 in
theorem smec_ok : FunOK Try.prog 11 smec_g := by
  refine fun_ok (by kernel_rfl) (ruB_S63_ok) (ruB_L57_ok) 9 (On := (opens [])) (fun args t h => ?_)
  unfold smec_g at h
  split at h
  · rename_i _ _ A _ _ B
    simp only [Option.some.injEq] at h
    subst h
    refine ⟨[.one (.d false false (.prod (.int .i64) (.int .i64)) A), .one (.d false false (.prod (.int .i64) (.int .i64)) B)], rfl, fun fr w us h => h, fun r hr => ?_⟩
    obtain ⟨hc, hr⟩ := br_bad hr
    simp only [Tr.val, Option.some.injEq] at hr
    subst hr
    rw [smec_tree]
    exact smec_val A B hc
  · cases h
noncomputable def ruB_S64 : Sums := addS 11 smec_g ruB_S63
theorem ruB_S64_ok : SumOK Try.prog ruB_S64 := addS_ok (smec_ok) (ruB_S63_ok)
set_option maxRecDepth 100000 in
theorem movc_tree (L : (Ty.list (.prod (.int .i64) (.int .i64))).den) (a : Int) (b : Int) : evalF Try.prog ruB_S64 (opens []) ruB_L57 9 43 [.one (.d false false (.prod (.int .i64) (.int .i64)) L), .one (.v false (.int .i64 a)), .one (.v false (.int .i64 b))] = .br (((mov_cond (a, b, L, (↑(List.length L) : Int)) ((0 : Int), [])) && (Nat.beq (Prod.fst (mov_g (a, b, L, (↑(List.length L) : Int)) ((0 : Int), []))) (0 : Nat)))) (.ret (.one (.d false false (.prod (.int .i64) (.int .i64)) (Prod.snd (Prod.snd (mov_g (a, b, L, (↑(List.length L) : Int)) ((0 : Int), []))))))) (.bad 116) := by kernel_rfl
theorem movc_val (L : (Ty.list (.prod (.int .i64) (.int .i64))).den) (a : Int) (b : Int) (hc : (mvOk L a b) = true) : (.br (((mov_cond (a, b, L, (↑(List.length L) : Int)) ((0 : Int), [])) && (Nat.beq (Prod.fst (mov_g (a, b, L, (↑(List.length L) : Int)) ((0 : Int), []))) (0 : Nat)))) (.ret (.one (.d false false (.prod (.int .i64) (.int .i64)) (Prod.snd (Prod.snd (mov_g (a, b, L, (↑(List.length L) : Int)) ((0 : Int), []))))))) (.bad 116) : Tr AV).val = some (.one (.d false false (.prod (.int .i64) (.int .i64)) (mvR L a b))) := by
  obtain ⟨v1, v2⟩ := mov_run hc
  show cond _ _ _ = _
  simp [v1, v2, Nat.beq, Tr.val]
noncomputable def movc_g : List AV → Option (Tr AV)
  | [.one (.d _ _ (.prod (.int .i64) (.int .i64)) L), .one (.v _ (.int .i64 a)), .one (.v _ (.int .i64 b))] => some (.br (mvOk L a b) (.ret (.one (.d false false (.prod (.int .i64) (.int .i64)) (mvR L a b)))) (.bad 900))
  | _ => none
set_option maxHeartbeats 4000000 in
theorem movc_ok : FunOK Try.prog 43 movc_g := by
  refine fun_ok (by kernel_rfl) (ruB_S64_ok) (ruB_L57_ok) 9 (On := (opens [])) (fun args t h => ?_)
  unfold movc_g at h
  split at h
  · rename_i _ _ L _ a _ b
    simp only [Option.some.injEq] at h
    subst h
    refine ⟨[.one (.d false false (.prod (.int .i64) (.int .i64)) L), .one (.v false (.int .i64 a)), .one (.v false (.int .i64 b))], rfl, fun fr w us h => h, fun r hr => ?_⟩
    obtain ⟨hc, hr⟩ := br_bad hr
    simp only [Tr.val, Option.some.injEq] at hr
    subst hr
    rw [movc_tree]
    exact movc_val L a b hc
  · cases h
noncomputable def ruB_S65 : Sums := addS 43 movc_g ruB_S64
theorem ruB_S65_ok : SumOK Try.prog ruB_S65 := addS_ok (movc_ok) (ruB_S64_ok)
set_option maxRecDepth 100000 in
theorem mrgc_tree (L : (Ty.list (.prod (.int .i64) (.int .i64))).den) : evalF Try.prog ruB_S65 (opens []) ruB_L57 9 35 [.one (.d false false (.prod (.int .i64) (.int .i64)) L)] = .br (((mrg_cond (L, (↑(List.length L) : Int)) ((0 : Int), [])) && (Nat.beq (Prod.fst (mrg_g (L, (↑(List.length L) : Int)) ((0 : Int), []))) (0 : Nat)))) (.ret (.one (.d false false (.prod (.int .i64) (.int .i64)) (Prod.snd (Prod.snd (mrg_g (L, (↑(List.length L) : Int)) ((0 : Int), []))))))) (.bad 116) := by kernel_rfl
theorem mrgc_val (L : (Ty.list (.prod (.int .i64) (.int .i64))).den) (hc : (decide (L.length ≤ 100000)) = true) : (.br (((mrg_cond (L, (↑(List.length L) : Int)) ((0 : Int), [])) && (Nat.beq (Prod.fst (mrg_g (L, (↑(List.length L) : Int)) ((0 : Int), []))) (0 : Nat)))) (.ret (.one (.d false false (.prod (.int .i64) (.int .i64)) (Prod.snd (Prod.snd (mrg_g (L, (↑(List.length L) : Int)) ((0 : Int), []))))))) (.bad 116) : Tr AV).val = some (.one (.d false false (.prod (.int .i64) (.int .i64)) (mrgR L))) := by
  have hn := of_decide_eq_true hc
  obtain ⟨v1, v2⟩ := mrg_run hn
  show cond _ _ _ = _
  simp [v1, v2, Nat.beq, Tr.val]
noncomputable def mrgc_g : List AV → Option (Tr AV)
  | [.one (.d _ _ (.prod (.int .i64) (.int .i64)) L)] => some (.br (decide (L.length ≤ 100000)) (.ret (.one (.d false false (.prod (.int .i64) (.int .i64)) (mrgR L)))) (.bad 900))
  | _ => none
set_option maxHeartbeats 4000000 in
theorem mrgc_ok : FunOK Try.prog 35 mrgc_g := by
  refine fun_ok (by kernel_rfl) (ruB_S65_ok) (ruB_L57_ok) 9 (On := (opens [])) (fun args t h => ?_)
  unfold mrgc_g at h
  split at h
  · rename_i _ _ L
    simp only [Option.some.injEq] at h
    subst h
    refine ⟨[.one (.d false false (.prod (.int .i64) (.int .i64)) L)], rfl, fun fr w us h => h, fun r hr => ?_⟩
    obtain ⟨hc, hr⟩ := br_bad hr
    simp only [Tr.val, Option.some.injEq] at hr
    subst hr
    rw [mrgc_tree]
    exact mrgc_val L hc
  · cases h
noncomputable def ruB_S66 : Sums := addS 35 mrgc_g ruB_S65
theorem ruB_S66_ok : SumOK Try.prog ruB_S66 := addS_ok (mrgc_ok) (ruB_S65_ok)
end Go.Proofs.Ytklagccjkbajiaa
