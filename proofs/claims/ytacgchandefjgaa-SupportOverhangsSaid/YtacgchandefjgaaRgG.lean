/-
  Regions: the document's operations.
-/
import Derived.Test.YtacgchandefjgaaProg
import Derived.Test.YtacgchandefjgaaFvX
import Derived.Test.YtacgchandefjgaaFvZ
import Derived.Test.YtacgchandefjgaaAut
import Derived.Test.YtacgchandefjgaaRd
import Derived.Test.YtacgchandefjgaaPl
import Derived.Test.YtacgchandefjgaaScn
import Derived.Test.YtacgchandefjgaaMor
import Derived.Test.YtacgchandefjgaaRgB
import Derived.Test.YtacgchandefjgaaRgC
import Derived.Test.YtacgchandefjgaaRgD
import Derived.Test.YtacgchandefjgaaRfA
namespace Go.Proofs.Ytacgchandefjgaa
open Go
abbrev bn0_V : Type := Int × (Ty.list (.int .i64)).den
noncomputable def bn0_St (u : swu_U) (v : bn0_V) : Stt := ⟨[.one (.d false false (.prod (.int .i64) (.int .i64)) u.1), .one (.d false false (.prod (.int .i64) (.int .i64)) u.2), .one .junk, .one .junk, .one (.v false (Value.slice none (0 : Nat) (0 : Nat))), .one (.s false 980 0 (none)), .one (.v false (.int .i64 v.1)), .one .junk, .one .junk, .one .junk, .one .junk, .one .junk, .one .junk, .one .junk, .one .junk, .one .junk, .one .junk, .one .junk, .one .junk, .one .junk, .one .junk, .one .junk, .one .junk, .one .junk, .one .junk, .one .junk, .one .junk, .one .junk, .one .junk, .one .junk, .one .junk, .one .junk, .one .junk, .one .junk, .one .junk, .one .junk, .one .junk, .one .junk, .one .junk, .one .junk, .one .junk, .one .junk, .one .junk, .one .junk, .one .junk, .one .junk, .one .junk, .one .junk, .one .junk, .one .junk, .one .junk, .one .junk, .one .junk, .one .junk, .one .junk, .one .junk, .one .junk, .one .junk, .one .junk, .one .junk, .one .junk, .one .junk, .one .junk, .one .junk, .one .junk, .one .junk, .one .junk, .one .junk, .one .junk, .one .junk, .one .junk, .one .junk, .one .junk, .one .junk, .one .junk, .one .junk, .one .junk, .one .junk, .one .junk, .one .junk, .one .junk, .one .junk, .one .junk, .one .junk, .one .junk, .one .junk, .one .junk, .one .junk, .one .junk, .one .junk], [(980, .row true false false 3 (.int .i64) v.2)], 1003⟩
noncomputable def bn0_step (u : swu_U) (v : bn0_V) : Tr (bn0_V ⊕ (Nat × bn0_V)) :=
  match u, v with
  | (q0, _), (q2, q3) => .br (decide (q2 < (↑(List.length q0) : Int))) (.br (decide ((0 : Int) ≤ q2) && decide (q2 < (↑(List.length q0) : Int))) (.br (decide ((0 : Int) ≤ q2) && decide (q2 < (↑(List.length q0) : Int))) (.br (decide ((List.length q3 + List.length [Prod.fst (el_ii q0 q2), Prod.snd (el_ii q0 q2)]) * (8 : Nat) ≤ maxNew) && decide (List.length q3 + List.length [Prod.fst (el_ii q0 q2), Prod.snd (el_ii q0 q2)] ≤ maxLen)) (.ret (.inl (IntKind.wrap .i64 (q2 + (1 : Int)), q3 ++ [Prod.fst (el_ii q0 q2), Prod.snd (el_ii q0 q2)]))) (.bad 71)) (.bad 29)) (.bad 29)) (.ret (.inr (0, (q2, q3))))
set_option maxRecDepth 100000 in
set_option maxHeartbeats 4000000 in
theorem bn0_step_eq : ∀ (u : swu_U) (v : bn0_V), (evalC Try.prog (evalB Try.prog rfB_S54 (opens []) rfB_L53 7).1 (evalB Try.prog rfB_S54 (opens []) rfB_L53 7).2 (opens []) (rfB_L53 115) 100000 (0 :: [0, 1, 0, 1, 1]) (loopOf (bodyOf Try.prog 115) [1, 1, 0, 1, 0]) (bn0_St u v) []).bind (finF [2, 3, 7, 8, 9, 10, 11, 12, 13, 14, 15, 16, 17, 18, 19, 20, 21, 22, 23, 24, 25, 26, 27, 28, 29, 30, 31, 32, 33, 34, 35, 36, 37, 38, 39, 40, 41, 42, 43, 44, 45, 46, 47, 48, 49, 50, 51, 52, 53, 54, 55, 56, 57, 58, 59, 60, 61, 62, 63, 64, 65, 66, 67, 68, 69, 70, 71, 72, 73, 74, 75, 76, 77, 78, 79, 80, 81, 82, 83, 84, 85, 86, 87, 88, 89] [⟨980, some 5, 0, 0, 3, (.int .i64)⟩] [980] [1019] 1003) = (bn0_step u v).bind (outA (bn0_St u) [.exit 0]) := by
  rintro ⟨q0, q1⟩ ⟨q2, q3⟩
  kernel_rfl
noncomputable def bn0_rd (b : Bool) (o0 : Option AV) (o1 : Option AV) (o4 : Option AV) (o5 : Option AV) (o6 : Option AV) (own : Own) : Option (swu_U × bn0_V) := zrT b <| zrO o0 fun za1 => zrA1 za1 fun zc2 => zrD (.prod (.int .i64) (.int .i64)) zc2 fun q0 => zrO o1 fun za3 => zrA1 za3 fun zc4 => zrD (.prod (.int .i64) (.int .i64)) zc4 fun q1 => zrO o4 fun za5 => zrA1 za5 fun zc6 => zrNil zc6 <| zrO o5 fun za7 => zrA1 za7 fun zc8 => zrSl 980 0 (none) zc8 <| zrO o6 fun za9 => zrA1 za9 fun zc10 => zrI .i64 zc10 fun q2 => zrL own fun zq11 zw12 => zrKey 980 zq11 fun zk13 => zrR true 3 (.int .i64) zk13 fun q3 => zrN zw12 <| some ((q0, q1), (q2, q3))
noncomputable def bn0_can (st : Stt) : Stt := canA [2, 3, 7, 8, 9, 10, 11, 12, 13, 14, 15, 16, 17, 18, 19, 20, 21, 22, 23, 24, 25, 26, 27, 28, 29, 30, 31, 32, 33, 34, 35, 36, 37, 38, 39, 40, 41, 42, 43, 44, 45, 46, 47, 48, 49, 50, 51, 52, 53, 54, 55, 56, 57, 58, 59, 60, 61, 62, 63, 64, 65, 66, 67, 68, 69, 70, 71, 72, 73, 74, 75, 76, 77, 78, 79, 80, 81, 82, 83, 84, 85, 86, 87, 88, 89] [⟨980, some 5, 0, 0, 3, (.int .i64)⟩] [980] [1019] 1003 st
noncomputable def bn0_cok (st : Stt) : Bool := canAok [2, 3, 7, 8, 9, 10, 11, 12, 13, 14, 15, 16, 17, 18, 19, 20, 21, 22, 23, 24, 25, 26, 27, 28, 29, 30, 31, 32, 33, 34, 35, 36, 37, 38, 39, 40, 41, 42, 43, 44, 45, 46, 47, 48, 49, 50, 51, 52, 53, 54, 55, 56, 57, 58, 59, 60, 61, 62, 63, 64, 65, 66, 67, 68, 69, 70, 71, 72, 73, 74, 75, 76, 77, 78, 79, 80, 81, 82, 83, 84, 85, 86, 87, 88, 89] [⟨980, some 5, 0, 0, 3, (.int .i64)⟩] [980] [1019] 1003 st
noncomputable def bn0_read (st : Stt) : Option (swu_U × bn0_V) := bn0_rd (bn0_cok st && (staysA [⟨980, some 5, 0, 0, 3, (.int .i64)⟩] [980] st.own && juAll [2, 3, 7, 8, 9, 10, 11, 12, 13, 14, 15, 16, 17, 18, 19, 20, 21, 22, 23, 24, 25, 26, 27, 28, 29, 30, 31, 32, 33, 34, 35, 36, 37, 38, 39, 40, 41, 42, 43, 44, 45, 46, 47, 48, 49, 50, 51, 52, 53, 54, 55, 56, 57, 58, 59, 60, 61, 62, 63, 64, 65, 66, 67, 68, 69, 70, 71, 72, 73, 74, 75, 76, 77, 78, 79, 80, 81, 82, 83, 84, 85, 86, 87, 88, 89] (bn0_can st).tm 90)) (bn0_can st).tm[0]? (bn0_can st).tm[1]? (bn0_can st).tm[4]? (bn0_can st).tm[5]? (bn0_can st).tm[6]? (bn0_can st).own
set_option maxRecDepth 100000 in
set_option maxHeartbeats 4000000 in
theorem bn0_rd_ok {b : Bool} {tm : List AV} {own : Own} {u : swu_U} {v : bn0_V} (hj : b = true → juAll [2, 3, 7, 8, 9, 10, 11, 12, 13, 14, 15, 16, 17, 18, 19, 20, 21, 22, 23, 24, 25, 26, 27, 28, 29, 30, 31, 32, 33, 34, 35, 36, 37, 38, 39, 40, 41, 42, 43, 44, 45, 46, 47, 48, 49, 50, 51, 52, 53, 54, 55, 56, 57, 58, 59, 60, 61, 62, 63, 64, 65, 66, 67, 68, 69, 70, 71, 72, 73, 74, 75, 76, 77, 78, 79, 80, 81, 82, 83, 84, 85, 86, 87, 88, 89] tm 90 = true) (h : bn0_rd b tm[0]? tm[1]? tm[4]? tm[5]? tm[6]? own = some (u, v)) : b = true ∧ tm = (bn0_St u v).tm ∧ own = (bn0_St u v).own := by
  unfold bn0_rd at h
  obtain ⟨rfl, h0⟩ := zrT_some h
  obtain ⟨za1, e0, h1⟩ := zrO_some h0
  obtain ⟨zc2, rfl, h2⟩ := zrA1_some h1
  obtain ⟨q0, rfl, h3⟩ := zrD_some h2
  obtain ⟨za3, e1, h4⟩ := zrO_some h3
  obtain ⟨zc4, rfl, h5⟩ := zrA1_some h4
  obtain ⟨q1, rfl, h6⟩ := zrD_some h5
  obtain ⟨za5, e4, h7⟩ := zrO_some h6
  obtain ⟨zc6, rfl, h8⟩ := zrA1_some h7
  obtain ⟨rfl, h9⟩ := zrNil_some h8
  obtain ⟨za7, e5, h10⟩ := zrO_some h9
  obtain ⟨zc8, rfl, h11⟩ := zrA1_some h10
  obtain ⟨rfl, h12⟩ := zrSl_some h11
  obtain ⟨za9, e6, h13⟩ := zrO_some h12
  obtain ⟨zc10, rfl, h14⟩ := zrA1_some h13
  obtain ⟨q2, rfl, h15⟩ := zrI_some h14
  obtain ⟨zq11, zw12, rfl, h16⟩ := zrL_some h15
  obtain ⟨zk13, rfl, h17⟩ := zrKey_some h16
  obtain ⟨q3, rfl, h18⟩ := zrR_some h17
  obtain ⟨rfl, h19⟩ := zrN_some h18
  have h := Option.some.inj h19
  have hu := congrArg Prod.fst h
  have hv := congrArg Prod.snd h
  dsimp only at hu hv
  subst hu
  subst hv
  exact ⟨rfl, (tm_fill (hj rfl) (Lv := [(0, .one (.d false false (.prod (.int .i64) (.int .i64)) q0)), (1, .one (.d false false (.prod (.int .i64) (.int .i64)) q1)), (4, .one (.v false (Value.slice none (0 : Nat) (0 : Nat)))), (5, .one (.s false 980 0 (none))), (6, .one (.v false (.int .i64 q2)))]) (by kernel_rfl) ⟨e0, e1, e4, e5, e6, trivial⟩).trans (by kernel_rfl), rfl⟩
theorem bn0_read_ok (st : Stt) (u : swu_U) (v : bn0_V) (h : bn0_read st = some (u, v)) : bn0_cok st = true ∧ staysA [⟨980, some 5, 0, 0, 3, (.int .i64)⟩] [980] st.own = true ∧ bn0_can st = bn0_St u v := by
  obtain ⟨h1, h2, h3⟩ := bn0_rd_ok (fun hb => by rw [Bool.and_eq_true, Bool.and_eq_true] at hb; exact hb.2.2) h
  rw [Bool.and_eq_true, Bool.and_eq_true] at h1
  refine ⟨h1.1, h1.2.1, ?_⟩
  have e : bn0_can st = ⟨(bn0_can st).tm, (bn0_can st).own, 1003⟩ := by kernel_rfl
  rw [e, h2, h3]
  rfl
noncomputable def bn0_cond (u : swu_U) (v : bn0_V) : Bool := runC (bn0_step u) v
noncomputable def bn0_g (u : swu_U) (v : bn0_V) : Nat × bn0_V := runG (bn0_step u) v
theorem bn0_hg : ∀ (u : swu_U) (v : bn0_V), bn0_cond u v = true → loopN (bn0_step u) ((fun u v => runF (bn0_step u) v) u v) v = some (bn0_g u v) := by
  exact fun u v h => run_hg h
noncomputable def bn0_m (st : Stt) : Option (Tr (Ex × Stt)) := sumM bn0_read bn0_cond bn0_St bn0_g [(0, .exit 0)] st
noncomputable def rgG_L51 : FuncId → Loops := addL 115 [0, 1, 0, 1, 1] bn0_m rfB_L53
set_option maxRecDepth 100000 in
set_option maxHeartbeats 4000000 in
theorem rgG_L51_ok : LoopsOK Try.prog rgG_L51 :=
  loop_sumF (body := (bodyOf Try.prog 115)) (c := (loopOf (bodyOf Try.prog 115) [1, 1, 0, 1, 0])) (kinds := [.exit 0]) (allow := [(0, .exit 0)]) (St := bn0_St) (step := bn0_step) (W := [2, 3, 7, 8, 9, 10, 11, 12, 13, 14, 15, 16, 17, 18, 19, 20, 21, 22, 23, 24, 25, 26, 27, 28, 29, 30, 31, 32, 33, 34, 35, 36, 37, 38, 39, 40, 41, 42, 43, 44, 45, 46, 47, 48, 49, 50, 51, 52, 53, 54, 55, 56, 57, 58, 59, 60, 61, 62, 63, 64, 65, 66, 67, 68, 69, 70, 71, 72, 73, 74, 75, 76, 77, 78, 79, 80, 81, 82, 83, 84, 85, 86, 87, 88, 89]) (As := [⟨980, some 5, 0, 0, 3, (.int .i64)⟩]) (ks := [980]) (dd := [1019]) (nx := 1003) (n := 100000) (g := bn0_g) (cond := bn0_cond) (fuel := (fun u v => runF (bn0_step u) v)) (read := bn0_read) (by kernel_rfl) (rfB_S54_ok) (rfB_L53_ok) 7 ⟨Try.f115, by kernel_rfl, by kernel_rfl⟩ (by kernel_rfl) (by kernel_rfl) (by kernel_rfl) bn0_step_eq bn0_hg bn0_read_ok
noncomputable def bn1_St (u : fi_U) (v : bn0_V) : Stt := ⟨[.one .junk, .one (.d false false (.prod (.int .i64) (.int .i64)) u), .one .junk, .one .junk, .one (.v false (Value.slice none (0 : Nat) (0 : Nat))), .one (.s false 960 0 (none)), .one .junk, .one (.v false (.int .i64 v.1)), .one .junk, .one .junk, .one .junk, .one .junk, .one .junk, .one .junk, .one .junk, .one .junk, .one .junk, .one .junk, .one .junk, .one .junk, .one .junk, .one .junk, .one .junk, .one .junk, .one .junk, .one .junk, .one .junk, .one .junk, .one .junk, .one .junk, .one .junk, .one .junk, .one .junk, .one .junk, .one .junk, .one .junk, .one .junk, .one .junk, .one .junk, .one .junk, .one .junk, .one .junk, .one .junk, .one .junk, .one .junk, .one .junk, .one .junk, .one .junk, .one .junk, .one .junk, .one .junk, .one .junk, .one .junk, .one .junk, .one .junk, .one .junk, .one .junk, .one .junk, .one .junk, .one .junk, .one .junk, .one .junk, .one .junk, .one .junk, .one .junk, .one .junk, .one .junk, .one .junk, .one .junk, .one .junk, .one .junk, .one .junk, .one .junk, .one .junk, .one .junk, .one .junk, .one .junk, .one .junk, .one .junk, .one .junk, .one .junk, .one .junk, .one .junk, .one .junk, .one .junk, .one .junk, .one .junk, .one .junk, .one .junk, .one .junk], [(980, .dead), (960, .row true false false 3 (.int .i64) v.2)], 2004⟩
noncomputable def bn1_step (u : fi_U) (v : bn0_V) : Tr (bn0_V ⊕ (Nat × bn0_V)) :=
  match u, v with
  | q0, (q1, q2) => .br (decide (q1 < (↑(List.length q0) : Int))) (.br (decide ((0 : Int) ≤ q1) && decide (q1 < (↑(List.length q0) : Int))) (.br (decide ((0 : Int) ≤ q1) && decide (q1 < (↑(List.length q0) : Int))) (.br (decide ((List.length q2 + List.length [Prod.fst (el_ii q0 q1), Prod.snd (el_ii q0 q1)]) * (8 : Nat) ≤ maxNew) && decide (List.length q2 + List.length [Prod.fst (el_ii q0 q1), Prod.snd (el_ii q0 q1)] ≤ maxLen)) (.ret (.inl (IntKind.wrap .i64 (q1 + (1 : Int)), q2 ++ [Prod.fst (el_ii q0 q1), Prod.snd (el_ii q0 q1)]))) (.bad 71)) (.bad 29)) (.bad 29)) (.ret (.inr (0, (q1, q2))))
set_option maxRecDepth 100000 in
set_option maxHeartbeats 4000000 in
theorem bn1_step_eq : ∀ (u : fi_U) (v : bn0_V), (evalC Try.prog (evalB Try.prog rfB_S54 (opens []) rgG_L51 7).1 (evalB Try.prog rfB_S54 (opens []) rgG_L51 7).2 (opens []) (rgG_L51 115) 100000 (0 :: [0, 1, 0, 1, 1, 1]) (loopOf (bodyOf Try.prog 115) [1, 1, 1, 0, 1, 0]) (bn1_St u v) []).bind (finF [0, 2, 3, 6, 8, 9, 10, 11, 12, 13, 14, 15, 16, 17, 18, 19, 20, 21, 22, 23, 24, 25, 26, 27, 28, 29, 30, 31, 32, 33, 34, 35, 36, 37, 38, 39, 40, 41, 42, 43, 44, 45, 46, 47, 48, 49, 50, 51, 52, 53, 54, 55, 56, 57, 58, 59, 60, 61, 62, 63, 64, 65, 66, 67, 68, 69, 70, 71, 72, 73, 74, 75, 76, 77, 78, 79, 80, 81, 82, 83, 84, 85, 86, 87, 88, 89] [⟨960, some 5, 0, 0, 3, (.int .i64)⟩] [980, 960] [980, 2020] 2004) = (bn1_step u v).bind (outA (bn1_St u) [.exit 2]) := by
  rintro q0 ⟨q1, q2⟩
  kernel_rfl
noncomputable def bn1_rd (b : Bool) (o1 : Option AV) (o4 : Option AV) (o5 : Option AV) (o7 : Option AV) (own : Own) : Option (fi_U × bn0_V) := zrT b <| zrO o1 fun za1 => zrA1 za1 fun zc2 => zrD (.prod (.int .i64) (.int .i64)) zc2 fun q0 => zrO o4 fun za3 => zrA1 za3 fun zc4 => zrNil zc4 <| zrO o5 fun za5 => zrA1 za5 fun zc6 => zrSl 960 0 (none) zc6 <| zrO o7 fun za7 => zrA1 za7 fun zc8 => zrI .i64 zc8 fun q1 => zrL own fun zq9 zw10 => zrKey 980 zq9 fun zk11 => zrX zk11 <| zrL zw10 fun zq12 zw13 => zrKey 960 zq12 fun zk14 => zrR true 3 (.int .i64) zk14 fun q2 => zrN zw13 <| some (q0, (q1, q2))
noncomputable def bn1_can (st : Stt) : Stt := canA [0, 2, 3, 6, 8, 9, 10, 11, 12, 13, 14, 15, 16, 17, 18, 19, 20, 21, 22, 23, 24, 25, 26, 27, 28, 29, 30, 31, 32, 33, 34, 35, 36, 37, 38, 39, 40, 41, 42, 43, 44, 45, 46, 47, 48, 49, 50, 51, 52, 53, 54, 55, 56, 57, 58, 59, 60, 61, 62, 63, 64, 65, 66, 67, 68, 69, 70, 71, 72, 73, 74, 75, 76, 77, 78, 79, 80, 81, 82, 83, 84, 85, 86, 87, 88, 89] [⟨960, some 5, 0, 0, 3, (.int .i64)⟩] [980, 960] [980, 2020] 2004 st
noncomputable def bn1_cok (st : Stt) : Bool := canAok [0, 2, 3, 6, 8, 9, 10, 11, 12, 13, 14, 15, 16, 17, 18, 19, 20, 21, 22, 23, 24, 25, 26, 27, 28, 29, 30, 31, 32, 33, 34, 35, 36, 37, 38, 39, 40, 41, 42, 43, 44, 45, 46, 47, 48, 49, 50, 51, 52, 53, 54, 55, 56, 57, 58, 59, 60, 61, 62, 63, 64, 65, 66, 67, 68, 69, 70, 71, 72, 73, 74, 75, 76, 77, 78, 79, 80, 81, 82, 83, 84, 85, 86, 87, 88, 89] [⟨960, some 5, 0, 0, 3, (.int .i64)⟩] [980, 960] [980, 2020] 2004 st
noncomputable def bn1_read (st : Stt) : Option (fi_U × bn0_V) := bn1_rd (bn1_cok st && (staysA [⟨960, some 5, 0, 0, 3, (.int .i64)⟩] [980, 960] st.own && juAll [0, 2, 3, 6, 8, 9, 10, 11, 12, 13, 14, 15, 16, 17, 18, 19, 20, 21, 22, 23, 24, 25, 26, 27, 28, 29, 30, 31, 32, 33, 34, 35, 36, 37, 38, 39, 40, 41, 42, 43, 44, 45, 46, 47, 48, 49, 50, 51, 52, 53, 54, 55, 56, 57, 58, 59, 60, 61, 62, 63, 64, 65, 66, 67, 68, 69, 70, 71, 72, 73, 74, 75, 76, 77, 78, 79, 80, 81, 82, 83, 84, 85, 86, 87, 88, 89] (bn1_can st).tm 90)) (bn1_can st).tm[1]? (bn1_can st).tm[4]? (bn1_can st).tm[5]? (bn1_can st).tm[7]? (bn1_can st).own
set_option maxRecDepth 100000 in
set_option maxHeartbeats 4000000 in
theorem bn1_rd_ok {b : Bool} {tm : List AV} {own : Own} {u : fi_U} {v : bn0_V} (hj : b = true → juAll [0, 2, 3, 6, 8, 9, 10, 11, 12, 13, 14, 15, 16, 17, 18, 19, 20, 21, 22, 23, 24, 25, 26, 27, 28, 29, 30, 31, 32, 33, 34, 35, 36, 37, 38, 39, 40, 41, 42, 43, 44, 45, 46, 47, 48, 49, 50, 51, 52, 53, 54, 55, 56, 57, 58, 59, 60, 61, 62, 63, 64, 65, 66, 67, 68, 69, 70, 71, 72, 73, 74, 75, 76, 77, 78, 79, 80, 81, 82, 83, 84, 85, 86, 87, 88, 89] tm 90 = true) (h : bn1_rd b tm[1]? tm[4]? tm[5]? tm[7]? own = some (u, v)) : b = true ∧ tm = (bn1_St u v).tm ∧ own = (bn1_St u v).own := by
  unfold bn1_rd at h
  obtain ⟨rfl, h0⟩ := zrT_some h
  obtain ⟨za1, e1, h1⟩ := zrO_some h0
  obtain ⟨zc2, rfl, h2⟩ := zrA1_some h1
  obtain ⟨q0, rfl, h3⟩ := zrD_some h2
  obtain ⟨za3, e4, h4⟩ := zrO_some h3
  obtain ⟨zc4, rfl, h5⟩ := zrA1_some h4
  obtain ⟨rfl, h6⟩ := zrNil_some h5
  obtain ⟨za5, e5, h7⟩ := zrO_some h6
  obtain ⟨zc6, rfl, h8⟩ := zrA1_some h7
  obtain ⟨rfl, h9⟩ := zrSl_some h8
  obtain ⟨za7, e7, h10⟩ := zrO_some h9
  obtain ⟨zc8, rfl, h11⟩ := zrA1_some h10
  obtain ⟨q1, rfl, h12⟩ := zrI_some h11
  obtain ⟨zq9, zw10, rfl, h13⟩ := zrL_some h12
  obtain ⟨zk11, rfl, h14⟩ := zrKey_some h13
  obtain ⟨rfl, h15⟩ := zrX_some h14
  obtain ⟨zq12, zw13, rfl, h16⟩ := zrL_some h15
  obtain ⟨zk14, rfl, h17⟩ := zrKey_some h16
  obtain ⟨q2, rfl, h18⟩ := zrR_some h17
  obtain ⟨rfl, h19⟩ := zrN_some h18
  have h := Option.some.inj h19
  have hu := congrArg Prod.fst h
  have hv := congrArg Prod.snd h
  dsimp only at hu hv
  subst hu
  subst hv
  exact ⟨rfl, (tm_fill (hj rfl) (Lv := [(1, .one (.d false false (.prod (.int .i64) (.int .i64)) q0)), (4, .one (.v false (Value.slice none (0 : Nat) (0 : Nat)))), (5, .one (.s false 960 0 (none))), (7, .one (.v false (.int .i64 q1)))]) (by kernel_rfl) ⟨e1, e4, e5, e7, trivial⟩).trans (by kernel_rfl), rfl⟩
theorem bn1_read_ok (st : Stt) (u : fi_U) (v : bn0_V) (h : bn1_read st = some (u, v)) : bn1_cok st = true ∧ staysA [⟨960, some 5, 0, 0, 3, (.int .i64)⟩] [980, 960] st.own = true ∧ bn1_can st = bn1_St u v := by
  obtain ⟨h1, h2, h3⟩ := bn1_rd_ok (fun hb => by rw [Bool.and_eq_true, Bool.and_eq_true] at hb; exact hb.2.2) h
  rw [Bool.and_eq_true, Bool.and_eq_true] at h1
  refine ⟨h1.1, h1.2.1, ?_⟩
  have e : bn1_can st = ⟨(bn1_can st).tm, (bn1_can st).own, 2004⟩ := by kernel_rfl
  rw [e, h2, h3]
  rfl
noncomputable def bn1_cond (u : fi_U) (v : bn0_V) : Bool := runC (bn1_step u) v
noncomputable def bn1_g (u : fi_U) (v : bn0_V) : Nat × bn0_V := runG (bn1_step u) v
theorem bn1_hg : ∀ (u : fi_U) (v : bn0_V), bn1_cond u v = true → loopN (bn1_step u) ((fun u v => runF (bn1_step u) v) u v) v = some (bn1_g u v) := by
  exact fun u v h => run_hg h
noncomputable def bn1_m (st : Stt) : Option (Tr (Ex × Stt)) := sumM bn1_read bn1_cond bn1_St bn1_g [(0, .exit 2)] st
noncomputable def rgG_L52 : FuncId → Loops := addL 115 [0, 1, 0, 1, 1, 1] bn1_m rgG_L51
set_option maxRecDepth 100000 in
set_option maxHeartbeats 4000000 in
theorem rgG_L52_ok : LoopsOK Try.prog rgG_L52 :=
  loop_sumF (body := (bodyOf Try.prog 115)) (c := (loopOf (bodyOf Try.prog 115) [1, 1, 1, 0, 1, 0])) (kinds := [.exit 2]) (allow := [(0, .exit 2)]) (St := bn1_St) (step := bn1_step) (W := [0, 2, 3, 6, 8, 9, 10, 11, 12, 13, 14, 15, 16, 17, 18, 19, 20, 21, 22, 23, 24, 25, 26, 27, 28, 29, 30, 31, 32, 33, 34, 35, 36, 37, 38, 39, 40, 41, 42, 43, 44, 45, 46, 47, 48, 49, 50, 51, 52, 53, 54, 55, 56, 57, 58, 59, 60, 61, 62, 63, 64, 65, 66, 67, 68, 69, 70, 71, 72, 73, 74, 75, 76, 77, 78, 79, 80, 81, 82, 83, 84, 85, 86, 87, 88, 89]) (As := [⟨960, some 5, 0, 0, 3, (.int .i64)⟩]) (ks := [980, 960]) (dd := [980, 2020]) (nx := 2004) (n := 100000) (g := bn1_g) (cond := bn1_cond) (fuel := (fun u v => runF (bn1_step u) v)) (read := bn1_read) (by kernel_rfl) (rfB_S54_ok) (rgG_L51_ok) 7 ⟨Try.f115, by kernel_rfl, by kernel_rfl⟩ (by kernel_rfl) (by kernel_rfl) (by kernel_rfl) bn1_step_eq bn1_hg bn1_read_ok
abbrev bn3_U : Type := Int
noncomputable def bn3_St (u : bn3_U) (v : bn0_V) : Stt := ⟨[.one .junk, .one .junk, .one .junk, .one .junk, .one (.v false (Value.slice none (0 : Nat) (0 : Nat))), .one (.s false 960 0 (none)), .one .junk, .one .junk, .one (.v false (.int .i64 u)), .one (.v false (.int .i64 v.1)), .one .junk, .one .junk, .one .junk, .one .junk, .one .junk, .one .junk, .one .junk, .one .junk, .one .junk, .one .junk, .one .junk, .one .junk, .one .junk, .one .junk, .one .junk, .one .junk, .one .junk, .one .junk, .one .junk, .one .junk, .one .junk, .one .junk, .one .junk, .one .junk, .one .junk, .one .junk, .one .junk, .one .junk, .one .junk, .one .junk, .one .junk, .one .junk, .one .junk, .one .junk, .one .junk, .one .junk, .one .junk, .one .junk, .one .junk, .one .junk, .one .junk, .one .junk, .one .junk, .one .junk, .one .junk, .one .junk, .one .junk, .one .junk, .one .junk, .one .junk, .one .junk, .one .junk, .one .junk, .one .junk, .one .junk, .one .junk, .one .junk, .one .junk, .one .junk, .one .junk, .one .junk, .one .junk, .one .junk, .one .junk, .one .junk, .one .junk, .one .junk, .one .junk, .one .junk, .one .junk, .one .junk, .one .junk, .one .junk, .one .junk, .one .junk, .one .junk, .one .junk, .one .junk, .one .junk, .one .junk], [(980, .dead), (960, .row true false false 3 (.int .i64) v.2)], 4011⟩
noncomputable def bn3_step (u : bn3_U) (v : bn0_V) : Tr (bn0_V ⊕ (Nat × bn0_V)) :=
  match u, v with
  | _, (q1, q2) => .br ((bif decide (q1 > (0 : Int)) then ((decide ((0 : Int) ≤ q1) && decide (q1 < (↑(List.length q2) : Int))) && ((decide (Int.toNat q1 < List.length q2)) && ((decide ((0 : Int) ≤ IntKind.wrap .i64 (q1 - (1 : Int))) && decide (IntKind.wrap .i64 (q1 - (1 : Int)) < (↑(List.length q2) : Int))) && (decide (Int.toNat (IntKind.wrap .i64 (q1 - (1 : Int))) < List.length q2))))) else true)) (.br (bif decide (q1 > (0 : Int)) then decide (el_i q2 q1 < el_i q2 (IntKind.wrap .i64 (q1 - (1 : Int)))) else false) (.br (decide ((0 : Int) ≤ q1) && decide (q1 < (↑(List.length q2) : Int))) (.br (decide (Int.toNat q1 < List.length q2)) (.br (decide ((0 : Int) ≤ IntKind.wrap .i64 (q1 - (1 : Int))) && decide (IntKind.wrap .i64 (q1 - (1 : Int)) < (↑(List.length q2) : Int))) (.br (decide (Int.toNat (IntKind.wrap .i64 (q1 - (1 : Int))) < List.length q2)) (.br (decide ((0 : Int) ≤ q1) && decide (q1 < (↑(List.length q2) : Int))) (.br (decide (Int.toNat q1 < List.length q2)) (.br (decide ((0 : Int) ≤ IntKind.wrap .i64 (q1 - (1 : Int))) && decide (IntKind.wrap .i64 (q1 - (1 : Int)) < (↑(List.length (List.set q2 (Int.toNat q1) (el_i q2 (IntKind.wrap .i64 (q1 - (1 : Int)))))) : Int))) (.br (decide (Int.toNat (IntKind.wrap .i64 (q1 - (1 : Int))) < List.length (List.set q2 (Int.toNat q1) (el_i q2 (IntKind.wrap .i64 (q1 - (1 : Int))))))) (.ret (.inl (IntKind.wrap .i64 (q1 - (1 : Int)), List.set (List.set q2 (Int.toNat q1) (el_i q2 (IntKind.wrap .i64 (q1 - (1 : Int))))) (Int.toNat (IntKind.wrap .i64 (q1 - (1 : Int)))) (el_i q2 q1)))) (.bad 19)) (.bad 31)) (.bad 19)) (.bad 31)) (.bad 12)) (.bad 31)) (.bad 12)) (.bad 31)) (.ret (.inr (0, (q1, q2))))) (.bad 117)
set_option maxRecDepth 100000 in
set_option maxHeartbeats 4000000 in
theorem bn3_step_eq : ∀ (u : bn3_U) (v : bn0_V), (evalC Try.prog (evalB Try.prog rfB_S54 (opens []) rgG_L52 7).1 (evalB Try.prog rfB_S54 (opens []) rgG_L52 7).2 (opens []) (rgG_L52 115) 100000 (0 :: [0, 1, 0, 0, 1, 0, 0, 1, 0, 1, 1, 1, 1]) (loopOf (bodyOf Try.prog 115) [1, 1, 1, 1, 0, 1, 0, 0, 1, 0, 0, 1, 0]) (bn3_St u v) []).bind (finF [0, 1, 2, 3, 6, 7, 10, 11, 12, 13, 14, 15, 16, 17, 18, 19, 20, 21, 22, 23, 24, 25, 26, 27, 28, 29, 30, 31, 32, 33, 34, 35, 36, 37, 38, 39, 40, 41, 42, 43, 44, 45, 46, 47, 48, 49, 50, 51, 52, 53, 54, 55, 56, 57, 58, 59, 60, 61, 62, 63, 64, 65, 66, 67, 68, 69, 70, 71, 72, 73, 74, 75, 76, 77, 78, 79, 80, 81, 82, 83, 84, 85, 86, 87, 88, 89] [] [980, 960] [980] 4011) = (bn3_step u v).bind (outA (bn3_St u) [.exit 6]) := by
  rintro q0 ⟨q1, q2⟩
  kernel_rfl
noncomputable def bn3_rd (b : Bool) (o4 : Option AV) (o5 : Option AV) (o8 : Option AV) (o9 : Option AV) (own : Own) : Option (bn3_U × bn0_V) := zrT b <| zrO o4 fun za1 => zrA1 za1 fun zc2 => zrNil zc2 <| zrO o5 fun za3 => zrA1 za3 fun zc4 => zrSl 960 0 (none) zc4 <| zrO o8 fun za5 => zrA1 za5 fun zc6 => zrI .i64 zc6 fun q0 => zrO o9 fun za7 => zrA1 za7 fun zc8 => zrI .i64 zc8 fun q1 => zrL own fun zq9 zw10 => zrKey 980 zq9 fun zk11 => zrX zk11 <| zrL zw10 fun zq12 zw13 => zrKey 960 zq12 fun zk14 => zrR true 3 (.int .i64) zk14 fun q2 => zrN zw13 <| some (q0, (q1, q2))
noncomputable def bn3_can (st : Stt) : Stt := canA [0, 1, 2, 3, 6, 7, 10, 11, 12, 13, 14, 15, 16, 17, 18, 19, 20, 21, 22, 23, 24, 25, 26, 27, 28, 29, 30, 31, 32, 33, 34, 35, 36, 37, 38, 39, 40, 41, 42, 43, 44, 45, 46, 47, 48, 49, 50, 51, 52, 53, 54, 55, 56, 57, 58, 59, 60, 61, 62, 63, 64, 65, 66, 67, 68, 69, 70, 71, 72, 73, 74, 75, 76, 77, 78, 79, 80, 81, 82, 83, 84, 85, 86, 87, 88, 89] [] [980, 960] [980] 4011 st
noncomputable def bn3_cok (st : Stt) : Bool := canAok [0, 1, 2, 3, 6, 7, 10, 11, 12, 13, 14, 15, 16, 17, 18, 19, 20, 21, 22, 23, 24, 25, 26, 27, 28, 29, 30, 31, 32, 33, 34, 35, 36, 37, 38, 39, 40, 41, 42, 43, 44, 45, 46, 47, 48, 49, 50, 51, 52, 53, 54, 55, 56, 57, 58, 59, 60, 61, 62, 63, 64, 65, 66, 67, 68, 69, 70, 71, 72, 73, 74, 75, 76, 77, 78, 79, 80, 81, 82, 83, 84, 85, 86, 87, 88, 89] [] [980, 960] [980] 4011 st
noncomputable def bn3_read (st : Stt) : Option (bn3_U × bn0_V) := bn3_rd (bn3_cok st && (staysA [] [980, 960] st.own && juAll [0, 1, 2, 3, 6, 7, 10, 11, 12, 13, 14, 15, 16, 17, 18, 19, 20, 21, 22, 23, 24, 25, 26, 27, 28, 29, 30, 31, 32, 33, 34, 35, 36, 37, 38, 39, 40, 41, 42, 43, 44, 45, 46, 47, 48, 49, 50, 51, 52, 53, 54, 55, 56, 57, 58, 59, 60, 61, 62, 63, 64, 65, 66, 67, 68, 69, 70, 71, 72, 73, 74, 75, 76, 77, 78, 79, 80, 81, 82, 83, 84, 85, 86, 87, 88, 89] (bn3_can st).tm 90)) (bn3_can st).tm[4]? (bn3_can st).tm[5]? (bn3_can st).tm[8]? (bn3_can st).tm[9]? (bn3_can st).own
set_option maxRecDepth 100000 in
set_option maxHeartbeats 4000000 in
theorem bn3_rd_ok {b : Bool} {tm : List AV} {own : Own} {u : bn3_U} {v : bn0_V} (hj : b = true → juAll [0, 1, 2, 3, 6, 7, 10, 11, 12, 13, 14, 15, 16, 17, 18, 19, 20, 21, 22, 23, 24, 25, 26, 27, 28, 29, 30, 31, 32, 33, 34, 35, 36, 37, 38, 39, 40, 41, 42, 43, 44, 45, 46, 47, 48, 49, 50, 51, 52, 53, 54, 55, 56, 57, 58, 59, 60, 61, 62, 63, 64, 65, 66, 67, 68, 69, 70, 71, 72, 73, 74, 75, 76, 77, 78, 79, 80, 81, 82, 83, 84, 85, 86, 87, 88, 89] tm 90 = true) (h : bn3_rd b tm[4]? tm[5]? tm[8]? tm[9]? own = some (u, v)) : b = true ∧ tm = (bn3_St u v).tm ∧ own = (bn3_St u v).own := by
  unfold bn3_rd at h
  obtain ⟨rfl, h0⟩ := zrT_some h
  obtain ⟨za1, e4, h1⟩ := zrO_some h0
  obtain ⟨zc2, rfl, h2⟩ := zrA1_some h1
  obtain ⟨rfl, h3⟩ := zrNil_some h2
  obtain ⟨za3, e5, h4⟩ := zrO_some h3
  obtain ⟨zc4, rfl, h5⟩ := zrA1_some h4
  obtain ⟨rfl, h6⟩ := zrSl_some h5
  obtain ⟨za5, e8, h7⟩ := zrO_some h6
  obtain ⟨zc6, rfl, h8⟩ := zrA1_some h7
  obtain ⟨q0, rfl, h9⟩ := zrI_some h8
  obtain ⟨za7, e9, h10⟩ := zrO_some h9
  obtain ⟨zc8, rfl, h11⟩ := zrA1_some h10
  obtain ⟨q1, rfl, h12⟩ := zrI_some h11
  obtain ⟨zq9, zw10, rfl, h13⟩ := zrL_some h12
  obtain ⟨zk11, rfl, h14⟩ := zrKey_some h13
  obtain ⟨rfl, h15⟩ := zrX_some h14
  obtain ⟨zq12, zw13, rfl, h16⟩ := zrL_some h15
  obtain ⟨zk14, rfl, h17⟩ := zrKey_some h16
  obtain ⟨q2, rfl, h18⟩ := zrR_some h17
  obtain ⟨rfl, h19⟩ := zrN_some h18
  have h := Option.some.inj h19
  have hu := congrArg Prod.fst h
  have hv := congrArg Prod.snd h
  dsimp only at hu hv
  subst hu
  subst hv
  exact ⟨rfl, (tm_fill (hj rfl) (Lv := [(4, .one (.v false (Value.slice none (0 : Nat) (0 : Nat)))), (5, .one (.s false 960 0 (none))), (8, .one (.v false (.int .i64 q0))), (9, .one (.v false (.int .i64 q1)))]) (by kernel_rfl) ⟨e4, e5, e8, e9, trivial⟩).trans (by kernel_rfl), rfl⟩
theorem bn3_read_ok (st : Stt) (u : bn3_U) (v : bn0_V) (h : bn3_read st = some (u, v)) : bn3_cok st = true ∧ staysA [] [980, 960] st.own = true ∧ bn3_can st = bn3_St u v := by
  obtain ⟨h1, h2, h3⟩ := bn3_rd_ok (fun hb => by rw [Bool.and_eq_true, Bool.and_eq_true] at hb; exact hb.2.2) h
  rw [Bool.and_eq_true, Bool.and_eq_true] at h1
  refine ⟨h1.1, h1.2.1, ?_⟩
  have e : bn3_can st = ⟨(bn3_can st).tm, (bn3_can st).own, 4011⟩ := by kernel_rfl
  rw [e, h2, h3]
  rfl
noncomputable def bn3_cond (u : bn3_U) (v : bn0_V) : Bool := runC (bn3_step u) v
noncomputable def bn3_g (u : bn3_U) (v : bn0_V) : Nat × bn0_V := runG (bn3_step u) v
theorem bn3_hg : ∀ (u : bn3_U) (v : bn0_V), bn3_cond u v = true → loopN (bn3_step u) ((fun u v => runF (bn3_step u) v) u v) v = some (bn3_g u v) := by
  exact fun u v h => run_hg h
noncomputable def bn3_m (st : Stt) : Option (Tr (Ex × Stt)) := sumM bn3_read bn3_cond bn3_St bn3_g [(0, .exit 6)] st
noncomputable def rgG_L53 : FuncId → Loops := addL 115 [0, 1, 0, 0, 1, 0, 0, 1, 0, 1, 1, 1, 1] bn3_m rgG_L52
set_option maxRecDepth 100000 in
set_option maxHeartbeats 4000000 in
theorem rgG_L53_ok : LoopsOK Try.prog rgG_L53 :=
  loop_sumF (body := (bodyOf Try.prog 115)) (c := (loopOf (bodyOf Try.prog 115) [1, 1, 1, 1, 0, 1, 0, 0, 1, 0, 0, 1, 0])) (kinds := [.exit 6]) (allow := [(0, .exit 6)]) (St := bn3_St) (step := bn3_step) (W := [0, 1, 2, 3, 6, 7, 10, 11, 12, 13, 14, 15, 16, 17, 18, 19, 20, 21, 22, 23, 24, 25, 26, 27, 28, 29, 30, 31, 32, 33, 34, 35, 36, 37, 38, 39, 40, 41, 42, 43, 44, 45, 46, 47, 48, 49, 50, 51, 52, 53, 54, 55, 56, 57, 58, 59, 60, 61, 62, 63, 64, 65, 66, 67, 68, 69, 70, 71, 72, 73, 74, 75, 76, 77, 78, 79, 80, 81, 82, 83, 84, 85, 86, 87, 88, 89]) (As := []) (ks := [980, 960]) (dd := [980]) (nx := 4011) (n := 100000) (g := bn3_g) (cond := bn3_cond) (fuel := (fun u v => runF (bn3_step u) v)) (read := bn3_read) (by kernel_rfl) (rfB_S54_ok) (rgG_L52_ok) 7 ⟨Try.f115, by kernel_rfl, by kernel_rfl⟩ (by kernel_rfl) (by kernel_rfl) (by kernel_rfl) bn3_step_eq bn3_hg bn3_read_ok
noncomputable def bn2_St (u : cmd_U) (v : bn0_V) : Stt := ⟨[.one .junk, .one .junk, .one .junk, .one .junk, .one (.v false (Value.slice none (0 : Nat) (0 : Nat))), .one (.s false 960 0 (none)), .one .junk, .one .junk, .one (.v false (.int .i64 v.1)), .one .junk, .one .junk, .one .junk, .one .junk, .one .junk, .one .junk, .one .junk, .one .junk, .one .junk, .one .junk, .one .junk, .one .junk, .one .junk, .one .junk, .one .junk, .one .junk, .one .junk, .one .junk, .one .junk, .one .junk, .one .junk, .one .junk, .one .junk, .one .junk, .one .junk, .one .junk, .one .junk, .one .junk, .one .junk, .one .junk, .one .junk, .one .junk, .one .junk, .one .junk, .one .junk, .one .junk, .one .junk, .one .junk, .one .junk, .one .junk, .one .junk, .one .junk, .one .junk, .one .junk, .one .junk, .one .junk, .one .junk, .one .junk, .one .junk, .one .junk, .one .junk, .one .junk, .one .junk, .one .junk, .one .junk, .one .junk, .one .junk, .one .junk, .one .junk, .one .junk, .one .junk, .one .junk, .one .junk, .one .junk, .one .junk, .one .junk, .one .junk, .one .junk, .one .junk, .one .junk, .one .junk, .one .junk, .one .junk, .one .junk, .one .junk, .one .junk, .one .junk, .one .junk, .one .junk, .one .junk, .one .junk], [(980, .dead), (960, .row true false false 3 (.int .i64) v.2)], 3005⟩
noncomputable def bn2_step (u : cmd_U) (v : bn0_V) : Tr (bn0_V ⊕ (Nat × bn0_V)) :=
  match u, v with
  | _, (q0, q1) => .br (decide (q0 < (↑(List.length q1) : Int))) (.br (bn3_cond q0 (q0, q1)) (.br (Nat.beq (Prod.fst (bn3_g q0 (q0, q1))) (0 : Nat)) (.ret (.inl (IntKind.wrap .i64 (q0 + (1 : Int)), Prod.snd (Prod.snd (bn3_g q0 (q0, q1)))))) (.bad 902)) (.bad 901)) (.ret (.inr (0, (q0, q1))))
set_option maxRecDepth 100000 in
set_option maxHeartbeats 4000000 in
theorem bn2_step_eq : ∀ (u : cmd_U) (v : bn0_V), (evalC Try.prog (evalB Try.prog rfB_S54 (opens []) rgG_L53 7).1 (evalB Try.prog rfB_S54 (opens []) rgG_L53 7).2 (opens []) (rgG_L53 115) 100000 (0 :: [0, 1, 0, 1, 1, 1, 1]) (loopOf (bodyOf Try.prog 115) [1, 1, 1, 1, 0, 1, 0]) (bn2_St u v) []).bind (finF [0, 1, 2, 3, 6, 7, 9, 10, 11, 12, 13, 14, 15, 16, 17, 18, 19, 20, 21, 22, 23, 24, 25, 26, 27, 28, 29, 30, 31, 32, 33, 34, 35, 36, 37, 38, 39, 40, 41, 42, 43, 44, 45, 46, 47, 48, 49, 50, 51, 52, 53, 54, 55, 56, 57, 58, 59, 60, 61, 62, 63, 64, 65, 66, 67, 68, 69, 70, 71, 72, 73, 74, 75, 76, 77, 78, 79, 80, 81, 82, 83, 84, 85, 86, 87, 88, 89] [] [980, 960] [980] 3005) = (bn2_step u v).bind (outA (bn2_St u) [.exit 4]) := by
  rintro _ ⟨q0, q1⟩
  kernel_rfl
noncomputable def bn2_rd (b : Bool) (o4 : Option AV) (o5 : Option AV) (o8 : Option AV) (own : Own) : Option (cmd_U × bn0_V) := zrT b <| zrO o4 fun za1 => zrA1 za1 fun zc2 => zrNil zc2 <| zrO o5 fun za3 => zrA1 za3 fun zc4 => zrSl 960 0 (none) zc4 <| zrO o8 fun za5 => zrA1 za5 fun zc6 => zrI .i64 zc6 fun q0 => zrL own fun zq7 zw8 => zrKey 980 zq7 fun zk9 => zrX zk9 <| zrL zw8 fun zq10 zw11 => zrKey 960 zq10 fun zk12 => zrR true 3 (.int .i64) zk12 fun q1 => zrN zw11 <| some ((), (q0, q1))
noncomputable def bn2_can (st : Stt) : Stt := canA [0, 1, 2, 3, 6, 7, 9, 10, 11, 12, 13, 14, 15, 16, 17, 18, 19, 20, 21, 22, 23, 24, 25, 26, 27, 28, 29, 30, 31, 32, 33, 34, 35, 36, 37, 38, 39, 40, 41, 42, 43, 44, 45, 46, 47, 48, 49, 50, 51, 52, 53, 54, 55, 56, 57, 58, 59, 60, 61, 62, 63, 64, 65, 66, 67, 68, 69, 70, 71, 72, 73, 74, 75, 76, 77, 78, 79, 80, 81, 82, 83, 84, 85, 86, 87, 88, 89] [] [980, 960] [980] 3005 st
noncomputable def bn2_cok (st : Stt) : Bool := canAok [0, 1, 2, 3, 6, 7, 9, 10, 11, 12, 13, 14, 15, 16, 17, 18, 19, 20, 21, 22, 23, 24, 25, 26, 27, 28, 29, 30, 31, 32, 33, 34, 35, 36, 37, 38, 39, 40, 41, 42, 43, 44, 45, 46, 47, 48, 49, 50, 51, 52, 53, 54, 55, 56, 57, 58, 59, 60, 61, 62, 63, 64, 65, 66, 67, 68, 69, 70, 71, 72, 73, 74, 75, 76, 77, 78, 79, 80, 81, 82, 83, 84, 85, 86, 87, 88, 89] [] [980, 960] [980] 3005 st
noncomputable def bn2_read (st : Stt) : Option (cmd_U × bn0_V) := bn2_rd (bn2_cok st && (staysA [] [980, 960] st.own && juAll [0, 1, 2, 3, 6, 7, 9, 10, 11, 12, 13, 14, 15, 16, 17, 18, 19, 20, 21, 22, 23, 24, 25, 26, 27, 28, 29, 30, 31, 32, 33, 34, 35, 36, 37, 38, 39, 40, 41, 42, 43, 44, 45, 46, 47, 48, 49, 50, 51, 52, 53, 54, 55, 56, 57, 58, 59, 60, 61, 62, 63, 64, 65, 66, 67, 68, 69, 70, 71, 72, 73, 74, 75, 76, 77, 78, 79, 80, 81, 82, 83, 84, 85, 86, 87, 88, 89] (bn2_can st).tm 90)) (bn2_can st).tm[4]? (bn2_can st).tm[5]? (bn2_can st).tm[8]? (bn2_can st).own
set_option maxRecDepth 100000 in
set_option maxHeartbeats 4000000 in
theorem bn2_rd_ok {b : Bool} {tm : List AV} {own : Own} {u : cmd_U} {v : bn0_V} (hj : b = true → juAll [0, 1, 2, 3, 6, 7, 9, 10, 11, 12, 13, 14, 15, 16, 17, 18, 19, 20, 21, 22, 23, 24, 25, 26, 27, 28, 29, 30, 31, 32, 33, 34, 35, 36, 37, 38, 39, 40, 41, 42, 43, 44, 45, 46, 47, 48, 49, 50, 51, 52, 53, 54, 55, 56, 57, 58, 59, 60, 61, 62, 63, 64, 65, 66, 67, 68, 69, 70, 71, 72, 73, 74, 75, 76, 77, 78, 79, 80, 81, 82, 83, 84, 85, 86, 87, 88, 89] tm 90 = true) (h : bn2_rd b tm[4]? tm[5]? tm[8]? own = some (u, v)) : b = true ∧ tm = (bn2_St u v).tm ∧ own = (bn2_St u v).own := by
  unfold bn2_rd at h
  obtain ⟨rfl, h0⟩ := zrT_some h
  obtain ⟨za1, e4, h1⟩ := zrO_some h0
  obtain ⟨zc2, rfl, h2⟩ := zrA1_some h1
  obtain ⟨rfl, h3⟩ := zrNil_some h2
  obtain ⟨za3, e5, h4⟩ := zrO_some h3
  obtain ⟨zc4, rfl, h5⟩ := zrA1_some h4
  obtain ⟨rfl, h6⟩ := zrSl_some h5
  obtain ⟨za5, e8, h7⟩ := zrO_some h6
  obtain ⟨zc6, rfl, h8⟩ := zrA1_some h7
  obtain ⟨q0, rfl, h9⟩ := zrI_some h8
  obtain ⟨zq7, zw8, rfl, h10⟩ := zrL_some h9
  obtain ⟨zk9, rfl, h11⟩ := zrKey_some h10
  obtain ⟨rfl, h12⟩ := zrX_some h11
  obtain ⟨zq10, zw11, rfl, h13⟩ := zrL_some h12
  obtain ⟨zk12, rfl, h14⟩ := zrKey_some h13
  obtain ⟨q1, rfl, h15⟩ := zrR_some h14
  obtain ⟨rfl, h16⟩ := zrN_some h15
  have h := Option.some.inj h16
  have hu := congrArg Prod.fst h
  have hv := congrArg Prod.snd h
  dsimp only at hu hv
  subst hu
  subst hv
  exact ⟨rfl, (tm_fill (hj rfl) (Lv := [(4, .one (.v false (Value.slice none (0 : Nat) (0 : Nat)))), (5, .one (.s false 960 0 (none))), (8, .one (.v false (.int .i64 q0)))]) (by kernel_rfl) ⟨e4, e5, e8, trivial⟩).trans (by kernel_rfl), rfl⟩
theorem bn2_read_ok (st : Stt) (u : cmd_U) (v : bn0_V) (h : bn2_read st = some (u, v)) : bn2_cok st = true ∧ staysA [] [980, 960] st.own = true ∧ bn2_can st = bn2_St u v := by
  obtain ⟨h1, h2, h3⟩ := bn2_rd_ok (fun hb => by rw [Bool.and_eq_true, Bool.and_eq_true] at hb; exact hb.2.2) h
  rw [Bool.and_eq_true, Bool.and_eq_true] at h1
  refine ⟨h1.1, h1.2.1, ?_⟩
  have e : bn2_can st = ⟨(bn2_can st).tm, (bn2_can st).own, 3005⟩ := by kernel_rfl
  rw [e, h2, h3]
  rfl
noncomputable def bn2_cond (u : cmd_U) (v : bn0_V) : Bool := runC (bn2_step u) v
noncomputable def bn2_g (u : cmd_U) (v : bn0_V) : Nat × bn0_V := runG (bn2_step u) v
theorem bn2_hg : ∀ (u : cmd_U) (v : bn0_V), bn2_cond u v = true → loopN (bn2_step u) ((fun u v => runF (bn2_step u) v) u v) v = some (bn2_g u v) := by
  exact fun u v h => run_hg h
noncomputable def bn2_m (st : Stt) : Option (Tr (Ex × Stt)) := sumM bn2_read bn2_cond bn2_St bn2_g [(0, .exit 4)] st
noncomputable def rgG_L54 : FuncId → Loops := addL 115 [0, 1, 0, 1, 1, 1, 1] bn2_m rgG_L53
set_option maxRecDepth 100000 in
set_option maxHeartbeats 4000000 in
theorem rgG_L54_ok : LoopsOK Try.prog rgG_L54 :=
  loop_sumF (body := (bodyOf Try.prog 115)) (c := (loopOf (bodyOf Try.prog 115) [1, 1, 1, 1, 0, 1, 0])) (kinds := [.exit 4]) (allow := [(0, .exit 4)]) (St := bn2_St) (step := bn2_step) (W := [0, 1, 2, 3, 6, 7, 9, 10, 11, 12, 13, 14, 15, 16, 17, 18, 19, 20, 21, 22, 23, 24, 25, 26, 27, 28, 29, 30, 31, 32, 33, 34, 35, 36, 37, 38, 39, 40, 41, 42, 43, 44, 45, 46, 47, 48, 49, 50, 51, 52, 53, 54, 55, 56, 57, 58, 59, 60, 61, 62, 63, 64, 65, 66, 67, 68, 69, 70, 71, 72, 73, 74, 75, 76, 77, 78, 79, 80, 81, 82, 83, 84, 85, 86, 87, 88, 89]) (As := []) (ks := [980, 960]) (dd := [980]) (nx := 3005) (n := 100000) (g := bn2_g) (cond := bn2_cond) (fuel := (fun u v => runF (bn2_step u) v)) (read := bn2_read) (by kernel_rfl) (rfB_S54_ok) (rgG_L53_ok) 7 ⟨Try.f115, by kernel_rfl, by kernel_rfl⟩ (by kernel_rfl) (by kernel_rfl) (by kernel_rfl) bn2_step_eq bn2_hg bn2_read_ok
theorem el_i0 (l : List Int) (k : Nat) : el_i l (k : Int) = l.getD k 0 := elm_nat (.int .i64) l k
theorem bn0_run {A B : Rl} (hn : A.length ≤ 10000) : bn0_cond (A, B) (0, []) = true ∧ bn0_g (A, B) (0, []) = (0, ((A.length : Int), flatB A)) := by
  have R := run_steps (step := bn0_step (A, B)) (St := fun j => ((j : Int), flatB (A.take j))) (n := A.length) (t := (0, ((A.length : Int), flatB A))) (by
    simp only [bn0_step, Tr.val, Int.lt_irrefl, decide_false, cond_false, List.take_length]) A.length 0 (Nat.zero_add _) (fun j _ hj => by
    have hl := flatB_len (A.take j)
    rw [List.length_take] at hl
    obtain ⟨r1, r2⟩ := room8 (n := (flatB (A.take j)).length + 2) (by omega)
    rw [flatB_take hj]
    simp only [bn0_step, Tr.val, lt_t hj, nn_t, el_r hj, List.length_cons, List.length_nil, Nat.zero_add, Nat.reduceAdd, r1, r2, wi1 hj (show (A.length : Int) ≤ 9223372036854775806 by omega), Bool.and_self, cond_true])
  exact R
theorem bn1_run {B : Rl} {F : List Int} (hn : B.length ≤ 10000) (hf : F.length ≤ 20000) : bn1_cond B (0, F) = true ∧ bn1_g B (0, F) = (0, ((B.length : Int), F ++ flatB B)) := by
  have R := run_steps (step := bn1_step B) (St := fun j => ((j : Int), F ++ flatB (B.take j))) (n := B.length) (t := (0, ((B.length : Int), F ++ flatB B))) (by
    simp only [bn1_step, Tr.val, Int.lt_irrefl, decide_false, cond_false, List.take_length]) B.length 0 (Nat.zero_add _) (fun j _ hj => by
    have hl := flatB_len (B.take j)
    rw [List.length_take] at hl
    obtain ⟨r1, r2⟩ := room8 (n := (F ++ flatB (B.take j)).length + 2) (by rw [List.length_append]; omega)
    rw [flatB_take hj, ← List.append_assoc]
    simp only [bn1_step, Tr.val, lt_t hj, nn_t, el_r hj, List.length_cons, List.length_nil, Nat.zero_add, Nat.reduceAdd, r1, r2, wi1 hj (show (B.length : Int) ≤ 9223372036854775806 by omega), Bool.and_self, cond_true])
  have e : F ++ flatB (B.take 0) = F := List.append_nil F
  simp only [e] at R
  exact R
theorem bn3_run {l0 : List Int} {i : Nat} (hi : i < l0.length) (hn : l0.length ≤ 100000) (hs : ∀ p q, p < q → q < i → l0.getD p 0 ≤ l0.getD q 0) : bn3_cond (i : Int) ((i : Int), l0) = true ∧ (bn3_g (i : Int) ((i : Int), l0)).1 = 0 ∧ (bn3_g (i : Int) ((i : Int), l0)).2.2.Perm l0 ∧ ∀ p q, p < q → q < i + 1 → (bn3_g (i : Int) ((i : Int), l0)).2.2.getD p 0 ≤ (bn3_g (i : Int) ((i : Int), l0)).2.2.getD q 0 := by
  refine run_val (step := bn3_step (i : Int)) (Inv := fun s => ∃ (k : Nat) (l : List Int), s = ((k : Int), l) ∧ Ins l0 i k l) (μ := fun s => s.1.toNat) (Q := fun t => t.1 = 0 ∧ t.2.2.Perm l0 ∧ ∀ p q, p < q → q < i + 1 → t.2.2.getD p 0 ≤ t.2.2.getD q 0) ?_ _ _ (Nat.lt_succ_self _) ⟨i, l0, rfl, ins_start hs⟩
  rintro s ⟨k, l, rfl, s⟩
  have h1 := s.ki
  have h2 := s.len
  have hk : k < l.length := by omega
  by_cases h0 : 0 < k
  · have d0 : decide ((k : Int) > (0 : Int)) = true := decide_eq_true (by omega)
    have w1 : IntKind.wrap .i64 ((k : Int) - (1 : Int)) = ((k - 1 : Nat) : Int) := by rw [wid (by omega) (by omega)]; omega
    have c1 : decide (((k - 1 : Nat) : Int) < (l.length : Int)) = true := decide_eq_true (by omega)
    have c2 : decide (k - 1 < l.length) = true := decide_eq_true (by omega)
    by_cases hlt : l.getD k 0 < l.getD (k - 1) 0
    · refine ⟨.inl (((k - 1 : Nat) : Int), swp l k), ?_, ⟨k - 1, swp l k, rfl, ins_next hi s h0 hlt⟩, by show ((k - 1 : Nat) : Int).toNat < (k : Int).toNat; omega⟩
      simp only [bn3_step, Tr.val, d0, w1, c1, c2, lt_t hk, nn_t, decide_eq_true hk, el_i0, decide_eq_true hlt, List.length_set, Int.toNat_natCast, Bool.and_self, cond_true]
      rfl
    · refine ⟨.inr (0, ((k : Int), l)), ?_, rfl, s.perm, ins_end s fun g => hlt g.2⟩
      simp only [bn3_step, Tr.val, d0, w1, c1, c2, lt_t hk, nn_t, decide_eq_true hk, el_i0, decide_eq_false hlt, Int.toNat_natCast, Bool.and_self, cond_true, cond_false]
  · have d0 : decide ((k : Int) > (0 : Int)) = false := decide_eq_false (by omega)
    refine ⟨.inr (0, ((k : Int), l)), ?_, rfl, s.perm, ins_end s fun g => h0 g.1⟩
    simp only [bn3_step, Tr.val, d0, cond_true, cond_false]
theorem bn2_run {l0 : List Int} (hn : l0.length ≤ 100000) : bn2_cond () (1, l0) = true ∧ (bn2_g () (1, l0)).1 = 0 ∧ (bn2_g () (1, l0)).2.2.Perm l0 ∧ ∀ p q, p < q → q < l0.length → (bn2_g () (1, l0)).2.2.getD p 0 ≤ (bn2_g () (1, l0)).2.2.getD q 0 := by
  refine run_val (step := bn2_step ()) (Inv := fun s => ∃ (i : Nat) (l : List Int), s = ((i : Int), l) ∧ 0 < i ∧ l.Perm l0 ∧ ∀ p q, p < q → q < i → l.getD p 0 ≤ l.getD q 0) (μ := fun s => l0.length - s.1.toNat) (Q := fun t => t.1 = 0 ∧ t.2.2.Perm l0 ∧ ∀ p q, p < q → q < l0.length → t.2.2.getD p 0 ≤ t.2.2.getD q 0) ?_ _ _ (Nat.lt_succ_self _) ⟨1, l0, rfl, by omega, List.Perm.refl _, fun p q h1 h2 => by omega⟩
  rintro s ⟨i, l, rfl, h0, hp, hs⟩
  have hl := hp.length_eq
  by_cases hi : i < l.length
  · obtain ⟨v1, v2, v3, v4⟩ := bn3_run hi (by omega) hs
    refine ⟨.inl (((i + 1 : Nat) : Int), (bn3_g (i : Int) ((i : Int), l)).2.2), ?_, ⟨i + 1, _, rfl, by omega, v3.trans hp, v4⟩, by show l0.length - ((i + 1 : Nat) : Int).toNat < l0.length - (i : Int).toNat; omega⟩
    have w1 : IntKind.wrap .i64 ((i : Int) + (1 : Int)) = ((i + 1 : Nat) : Int) := wi1 hi (by omega)
    simp only [bn2_step, Tr.val, lt_t hi, v1, v2, w1, Nat.beq, cond_true]
  · have d : decide ((i : Int) < (l.length : Int)) = false := decide_eq_false (by omega)
    exact ⟨.inr (0, ((i : Int), l)), by simp only [bn2_step, Tr.val, d, cond_false], rfl, hp, fun p q h1 h2 => hs p q h1 (by omega)⟩
noncomputable def bdsV (A B : Rl) : List Int := (bn2_g () (1, flatB A ++ flatB B)).2.2
theorem bds_ok {A B : Rl} (ha : A.length ≤ 10000) (hb : B.length ≤ 10000) : (bdsV A B).Perm (flatB A ++ flatB B) ∧ ∀ p q, p < q → q < (bdsV A B).length → (bdsV A B).getD p 0 ≤ (bdsV A B).getD q 0 := by
  have la := flatB_len A
  have lb := flatB_len B
  obtain ⟨_, _, h3, h4⟩ := bn2_run (l0 := flatB A ++ flatB B) (by rw [List.length_append]; omega)
  exact ⟨h3, fun p q h1 h2 => h4 p q h1 (by rw [← h3.length_eq]; exact h2)⟩
set_option maxRecDepth 100000 in
theorem bnc_tree (A : (Ty.list (.prod (.int .i64) (.int .i64))).den) (B : (Ty.list (.prod (.int .i64) (.int .i64))).den) : evalF Try.prog rfB_S54 (opens []) rgG_L54 9 115 [.one (.d false false (.prod (.int .i64) (.int .i64)) A), .one (.d false false (.prod (.int .i64) (.int .i64)) B)] = .br (((bn0_cond (A, B) ((0 : Int), [])) && ((Nat.beq (Prod.fst (bn0_g (A, B) ((0 : Int), []))) (0 : Nat)) && ((bn1_cond B ((0 : Int), Prod.snd (Prod.snd (bn0_g (A, B) ((0 : Int), []))))) && ((Nat.beq (Prod.fst (bn1_g B ((0 : Int), Prod.snd (Prod.snd (bn0_g (A, B) ((0 : Int), [])))))) (0 : Nat)) && ((bn2_cond () ((1 : Int), Prod.snd (Prod.snd (bn1_g B ((0 : Int), Prod.snd (Prod.snd (bn0_g (A, B) ((0 : Int), [])))))))) && (Nat.beq (Prod.fst (bn2_g () ((1 : Int), Prod.snd (Prod.snd (bn1_g B ((0 : Int), Prod.snd (Prod.snd (bn0_g (A, B) ((0 : Int), []))))))))) (0 : Nat)))))))) (.ret (.one (.d false false (.int .i64) (Prod.snd (Prod.snd (bn2_g () ((1 : Int), Prod.snd (Prod.snd (bn1_g B ((0 : Int), Prod.snd (Prod.snd (bn0_g (A, B) ((0 : Int), []))))))))))))) (.bad 116) := by kernel_rfl
theorem bnc_val (A : (Ty.list (.prod (.int .i64) (.int .i64))).den) (B : (Ty.list (.prod (.int .i64) (.int .i64))).den) (hc : (decide (A.length ≤ 10000) && decide (B.length ≤ 10000)) = true) : (.br (((bn0_cond (A, B) ((0 : Int), [])) && ((Nat.beq (Prod.fst (bn0_g (A, B) ((0 : Int), []))) (0 : Nat)) && ((bn1_cond B ((0 : Int), Prod.snd (Prod.snd (bn0_g (A, B) ((0 : Int), []))))) && ((Nat.beq (Prod.fst (bn1_g B ((0 : Int), Prod.snd (Prod.snd (bn0_g (A, B) ((0 : Int), [])))))) (0 : Nat)) && ((bn2_cond () ((1 : Int), Prod.snd (Prod.snd (bn1_g B ((0 : Int), Prod.snd (Prod.snd (bn0_g (A, B) ((0 : Int), [])))))))) && (Nat.beq (Prod.fst (bn2_g () ((1 : Int), Prod.snd (Prod.snd (bn1_g B ((0 : Int), Prod.snd (Prod.snd (bn0_g (A, B) ((0 : Int), []))))))))) (0 : Nat)))))))) (.ret (.one (.d false false (.int .i64) (Prod.snd (Prod.snd (bn2_g () ((1 : Int), Prod.snd (Prod.snd (bn1_g B ((0 : Int), Prod.snd (Prod.snd (bn0_g (A, B) ((0 : Int), []))))))))))))) (.bad 116) : Tr AV).val = some (.one (.d false false (.int .i64) (bdsV A B))) := by
  obtain ⟨K, rfl⟩ : ∃ K : Rl, K = A := ⟨A, rfl⟩
  obtain ⟨M, rfl⟩ : ∃ K : Rl, K = B := ⟨B, rfl⟩
  rw [Bool.and_eq_true] at hc
  have h1 : K.length ≤ 10000 := of_decide_eq_true hc.1
  have h2 : M.length ≤ 10000 := of_decide_eq_true hc.2
  have la := flatB_len K
  have lb := flatB_len M
  obtain ⟨a1, a2⟩ := bn0_run (A := K) (B := M) h1
  obtain ⟨b1, b2⟩ := bn1_run (B := M) (F := flatB K) h2 (by omega)
  obtain ⟨c1, c2, _, _⟩ := bn2_run (l0 := flatB K ++ flatB M) (by rw [List.length_append]; omega)
  unfold bdsV
  show cond _ _ _ = _
  simp only [a1, a2, b1, b2, c1, c2, Nat.beq, Bool.and_self, cond_true, Tr.val]
noncomputable def bnc_g : List AV → Option (Tr AV)
  | [.one (.d _ _ (.prod (.int .i64) (.int .i64)) A), .one (.d _ _ (.prod (.int .i64) (.int .i64)) B)] => some (.br (decide (A.length ≤ 10000) && decide (B.length ≤ 10000)) (.ret (.one (.d false false (.int .i64) (bdsV A B)))) (.bad 900))
  | _ => none
set_option maxHeartbeats 4000000 in
theorem bnc_ok : FunOK Try.prog 115 bnc_g := by
  refine fun_ok (by kernel_rfl) (rfB_S54_ok) (rgG_L54_ok) 9 (On := (opens [])) (fun args t h => ?_)
  unfold bnc_g at h
  split at h
  · rename_i _ _ A _ _ B
    simp only [Option.some.injEq] at h
    subst h
    refine ⟨[.one (.d false false (.prod (.int .i64) (.int .i64)) A), .one (.d false false (.prod (.int .i64) (.int .i64)) B)], rfl, fun fr w us h => h, fun r hr => ?_⟩
    obtain ⟨hc, hr⟩ := br_bad hr
    simp only [Tr.val, Option.some.injEq] at hr
    subst hr
    rw [bnc_tree]
    exact bnc_val A B hc
  · cases h
noncomputable def rgG_S55 : Sums := addS 115 bnc_g rfB_S54
theorem rgG_S55_ok : SumOK Try.prog rgG_S55 := addS_ok (bnc_ok) (rfB_S54_ok)
abbrev co_U : Type := Int × (Ty.list (.prod (.int .i64) (.int .i64))).den × (Ty.list (.prod (.int .i64) (.int .i64))).den × (Ty.list (.int .i64)).den
noncomputable def co_St (u : co_U) (v : mov_V) : Stt := ⟨[.one (.v false (.int .i64 u.1)), .one (.d false false (.prod (.int .i64) (.int .i64)) u.2.1), .one (.d false false (.prod (.int .i64) (.int .i64)) u.2.2.1), .one .junk, .one .junk, .one .junk, .one (.v false (Value.slice none (0 : Nat) (0 : Nat))), .one (.d false false (.int .i64) u.2.2.2), .one (.s false 980 0 (none)), .one (.v false (.int .i64 v.1)), .one .junk, .one .junk, .one .junk, .one .junk, .one .junk, .one .junk, .one .junk, .one .junk, .one .junk, .one .junk, .one .junk, .one .junk, .one .junk, .one .junk, .one .junk, .one .junk, .one .junk, .one .junk, .one .junk, .one .junk, .one .junk, .one .junk, .one .junk, .one .junk, .one .junk, .one .junk, .one .junk, .one .junk, .one .junk, .one .junk, .one .junk, .one .junk, .one .junk, .one .junk, .one .junk, .one .junk, .one .junk, .one .junk, .one .junk, .one .junk, .one .junk, .one .junk, .one .junk, .one .junk, .one .junk, .one .junk, .one .junk, .one .junk, .one .junk, .one .junk, .one .junk, .one .junk, .one .junk, .one .junk, .one .junk, .one .junk, .one .junk, .one .junk, .one .junk, .one .junk, .one .junk, .one .junk, .one .junk, .one .junk, .one .junk, .one .junk, .one .junk, .one .junk, .one .junk, .one .junk, .one .junk, .one .junk, .one .junk, .one .junk, .one .junk, .one .junk, .one .junk, .one .junk, .one .junk], [(980, .row true false false 69 (.prod (.int .i64) (.int .i64)) v.2)], 1007⟩
noncomputable def co_step (u : co_U) (v : mov_V) : Tr (mov_V ⊕ (Nat × mov_V)) :=
  match u, v with
  | (q0, q1, q2, q3), (q4, q5) => .br (decide (IntKind.wrap .i64 (q4 + (1 : Int)) < (↑(List.length q3) : Int))) (.br (decide ((0 : Int) ≤ q4) && decide (q4 < (↑(List.length q3) : Int))) (.br (decide ((0 : Int) ≤ IntKind.wrap .i64 (q4 + (1 : Int))) && decide (IntKind.wrap .i64 (q4 + (1 : Int)) < (↑(List.length q3) : Int))) (.br (el_i q3 q4 == el_i q3 (IntKind.wrap .i64 (q4 + (1 : Int)))) (.ret (.inl (IntKind.wrap .i64 (q4 + (1 : Int)), q5))) (.br (decide ((0 : Int) ≤ q4) && decide (q4 < (↑(List.length q3) : Int))) (.br (decide (List.length q1 ≤ (100000 : Nat))) (.br (decide ((0 : Int) ≤ q4) && decide (q4 < (↑(List.length q3) : Int))) (.br (decide (List.length q2 ≤ (100000 : Nat))) (.br (!bif q0 == (0 : Int) then bif memB q1 (el_i q3 q4) then true else memB q2 (el_i q3 q4) else bif q0 == (1 : Int) then bif memB q1 (el_i q3 q4) then memB q2 (el_i q3 q4) else false else bif memB q1 (el_i q3 q4) then !memB q2 (el_i q3 q4) else false) (.ret (.inl (IntKind.wrap .i64 (q4 + (1 : Int)), q5))) (.br ((bif decide ((↑(List.length q5) : Int) > (0 : Int)) then ((decide ((0 : Int) ≤ IntKind.wrap .i64 ((↑(List.length q5) : Int) - (1 : Int))) && decide (IntKind.wrap .i64 ((↑(List.length q5) : Int) - (1 : Int)) < (↑(List.length q5) : Int))) && ((decide (Int.toNat (IntKind.wrap .i64 ((↑(List.length q5) : Int) - (1 : Int))) < List.length q5)) && (decide ((0 : Int) ≤ q4) && decide (q4 < (↑(List.length q3) : Int))))) else true)) (.br (bif decide ((↑(List.length q5) : Int) > (0 : Int)) then Prod.snd (el_ii q5 (IntKind.wrap .i64 ((↑(List.length q5) : Int) - (1 : Int)))) == el_i q3 q4 else false) (.br (decide ((0 : Int) ≤ IntKind.wrap .i64 (q4 + (1 : Int))) && decide (IntKind.wrap .i64 (q4 + (1 : Int)) < (↑(List.length q3) : Int))) (.br (decide ((0 : Int) ≤ IntKind.wrap .i64 ((↑(List.length q5) : Int) - (1 : Int))) && decide (IntKind.wrap .i64 ((↑(List.length q5) : Int) - (1 : Int)) < (↑(List.length q5) : Int))) (.br (decide (Int.toNat (IntKind.wrap .i64 ((↑(List.length q5) : Int) - (1 : Int))) < List.length q5)) (.ret (.inl (IntKind.wrap .i64 (q4 + (1 : Int)), List.set q5 (Int.toNat (IntKind.wrap .i64 ((↑(List.length q5) : Int) - (1 : Int)))) (Prod.fst (el_ii q5 (IntKind.wrap .i64 ((↑(List.length q5) : Int) - (1 : Int)))), el_i q3 (IntKind.wrap .i64 (q4 + (1 : Int))))))) (.bad 19)) (.bad 31)) (.bad 29)) (.br (decide ((0 : Int) ≤ q4) && decide (q4 < (↑(List.length q3) : Int))) (.br (decide ((0 : Int) ≤ IntKind.wrap .i64 (q4 + (1 : Int))) && decide (IntKind.wrap .i64 (q4 + (1 : Int)) < (↑(List.length q3) : Int))) (.br (decide ((List.length q5 + (1 : Nat)) * (16 : Nat) ≤ maxNew) && decide (List.length q5 + (1 : Nat) ≤ maxLen)) (.ret (.inl (IntKind.wrap .i64 (q4 + (1 : Int)), q5 ++ [(el_i q3 q4, el_i q3 (IntKind.wrap .i64 (q4 + (1 : Int))))]))) (.bad 71)) (.bad 29)) (.bad 29))) (.bad 117))) (.bad 900)) (.bad 29)) (.bad 900)) (.bad 29))) (.bad 29)) (.bad 29)) (.ret (.inr (0, (q4, q5))))
set_option maxRecDepth 100000 in
set_option maxHeartbeats 4000000 in
theorem co_step_eq : ∀ (u : co_U) (v : mov_V), (evalC Try.prog (evalB Try.prog rgG_S55 (opens []) rgG_L54 7).1 (evalB Try.prog rgG_S55 (opens []) rgG_L54 7).2 (opens []) (rgG_L54 100) 100000 (0 :: [0, 1, 0, 1, 1, 1]) (loopOf (bodyOf Try.prog 100) [1, 1, 1, 0, 1, 0]) (co_St u v) []).bind (finF [3, 4, 5, 10, 11, 12, 13, 14, 15, 16, 17, 18, 19, 20, 21, 22, 23, 24, 25, 26, 27, 28, 29, 30, 31, 32, 33, 34, 35, 36, 37, 38, 39, 40, 41, 42, 43, 44, 45, 46, 47, 48, 49, 50, 51, 52, 53, 54, 55, 56, 57, 58, 59, 60, 61, 62, 63, 64, 65, 66, 67, 68, 69, 70, 71, 72, 73, 74, 75, 76, 77, 78, 79, 80, 81, 82, 83, 84, 85, 86, 87, 88] [⟨980, some 8, 0, 0, 69, (.prod (.int .i64) (.int .i64))⟩] [980] [1069] 1007) = (co_step u v).bind (outA (co_St u) [.exit 0]) := by
  rintro ⟨q0, q1, q2, q3⟩ ⟨q4, q5⟩
  kernel_rfl
noncomputable def co_rd (b : Bool) (o0 : Option AV) (o1 : Option AV) (o2 : Option AV) (o6 : Option AV) (o7 : Option AV) (o8 : Option AV) (o9 : Option AV) (own : Own) : Option (co_U × mov_V) := zrT b <| zrO o0 fun za1 => zrA1 za1 fun zc2 => zrI .i64 zc2 fun q0 => zrO o1 fun za3 => zrA1 za3 fun zc4 => zrD (.prod (.int .i64) (.int .i64)) zc4 fun q1 => zrO o2 fun za5 => zrA1 za5 fun zc6 => zrD (.prod (.int .i64) (.int .i64)) zc6 fun q2 => zrO o6 fun za7 => zrA1 za7 fun zc8 => zrNil zc8 <| zrO o7 fun za9 => zrA1 za9 fun zc10 => zrD (.int .i64) zc10 fun q3 => zrO o8 fun za11 => zrA1 za11 fun zc12 => zrSl 980 0 (none) zc12 <| zrO o9 fun za13 => zrA1 za13 fun zc14 => zrI .i64 zc14 fun q4 => zrL own fun zq15 zw16 => zrKey 980 zq15 fun zk17 => zrR true 69 (.prod (.int .i64) (.int .i64)) zk17 fun q5 => zrN zw16 <| some ((q0, q1, q2, q3), (q4, q5))
noncomputable def co_can (st : Stt) : Stt := canA [3, 4, 5, 10, 11, 12, 13, 14, 15, 16, 17, 18, 19, 20, 21, 22, 23, 24, 25, 26, 27, 28, 29, 30, 31, 32, 33, 34, 35, 36, 37, 38, 39, 40, 41, 42, 43, 44, 45, 46, 47, 48, 49, 50, 51, 52, 53, 54, 55, 56, 57, 58, 59, 60, 61, 62, 63, 64, 65, 66, 67, 68, 69, 70, 71, 72, 73, 74, 75, 76, 77, 78, 79, 80, 81, 82, 83, 84, 85, 86, 87, 88] [⟨980, some 8, 0, 0, 69, (.prod (.int .i64) (.int .i64))⟩] [980] [1069] 1007 st
noncomputable def co_cok (st : Stt) : Bool := canAok [3, 4, 5, 10, 11, 12, 13, 14, 15, 16, 17, 18, 19, 20, 21, 22, 23, 24, 25, 26, 27, 28, 29, 30, 31, 32, 33, 34, 35, 36, 37, 38, 39, 40, 41, 42, 43, 44, 45, 46, 47, 48, 49, 50, 51, 52, 53, 54, 55, 56, 57, 58, 59, 60, 61, 62, 63, 64, 65, 66, 67, 68, 69, 70, 71, 72, 73, 74, 75, 76, 77, 78, 79, 80, 81, 82, 83, 84, 85, 86, 87, 88] [⟨980, some 8, 0, 0, 69, (.prod (.int .i64) (.int .i64))⟩] [980] [1069] 1007 st
noncomputable def co_read (st : Stt) : Option (co_U × mov_V) := co_rd (co_cok st && (staysA [⟨980, some 8, 0, 0, 69, (.prod (.int .i64) (.int .i64))⟩] [980] st.own && juAll [3, 4, 5, 10, 11, 12, 13, 14, 15, 16, 17, 18, 19, 20, 21, 22, 23, 24, 25, 26, 27, 28, 29, 30, 31, 32, 33, 34, 35, 36, 37, 38, 39, 40, 41, 42, 43, 44, 45, 46, 47, 48, 49, 50, 51, 52, 53, 54, 55, 56, 57, 58, 59, 60, 61, 62, 63, 64, 65, 66, 67, 68, 69, 70, 71, 72, 73, 74, 75, 76, 77, 78, 79, 80, 81, 82, 83, 84, 85, 86, 87, 88] (co_can st).tm 89)) (co_can st).tm[0]? (co_can st).tm[1]? (co_can st).tm[2]? (co_can st).tm[6]? (co_can st).tm[7]? (co_can st).tm[8]? (co_can st).tm[9]? (co_can st).own
set_option maxRecDepth 100000 in
set_option maxHeartbeats 4000000 in
theorem co_rd_ok {b : Bool} {tm : List AV} {own : Own} {u : co_U} {v : mov_V} (hj : b = true → juAll [3, 4, 5, 10, 11, 12, 13, 14, 15, 16, 17, 18, 19, 20, 21, 22, 23, 24, 25, 26, 27, 28, 29, 30, 31, 32, 33, 34, 35, 36, 37, 38, 39, 40, 41, 42, 43, 44, 45, 46, 47, 48, 49, 50, 51, 52, 53, 54, 55, 56, 57, 58, 59, 60, 61, 62, 63, 64, 65, 66, 67, 68, 69, 70, 71, 72, 73, 74, 75, 76, 77, 78, 79, 80, 81, 82, 83, 84, 85, 86, 87, 88] tm 89 = true) (h : co_rd b tm[0]? tm[1]? tm[2]? tm[6]? tm[7]? tm[8]? tm[9]? own = some (u, v)) : b = true ∧ tm = (co_St u v).tm ∧ own = (co_St u v).own := by
  unfold co_rd at h
  obtain ⟨rfl, h0⟩ := zrT_some h
  obtain ⟨za1, e0, h1⟩ := zrO_some h0
  obtain ⟨zc2, rfl, h2⟩ := zrA1_some h1
  obtain ⟨q0, rfl, h3⟩ := zrI_some h2
  obtain ⟨za3, e1, h4⟩ := zrO_some h3
  obtain ⟨zc4, rfl, h5⟩ := zrA1_some h4
  obtain ⟨q1, rfl, h6⟩ := zrD_some h5
  obtain ⟨za5, e2, h7⟩ := zrO_some h6
  obtain ⟨zc6, rfl, h8⟩ := zrA1_some h7
  obtain ⟨q2, rfl, h9⟩ := zrD_some h8
  obtain ⟨za7, e6, h10⟩ := zrO_some h9
  obtain ⟨zc8, rfl, h11⟩ := zrA1_some h10
  obtain ⟨rfl, h12⟩ := zrNil_some h11
  obtain ⟨za9, e7, h13⟩ := zrO_some h12
  obtain ⟨zc10, rfl, h14⟩ := zrA1_some h13
  obtain ⟨q3, rfl, h15⟩ := zrD_some h14
  obtain ⟨za11, e8, h16⟩ := zrO_some h15
  obtain ⟨zc12, rfl, h17⟩ := zrA1_some h16
  obtain ⟨rfl, h18⟩ := zrSl_some h17
  obtain ⟨za13, e9, h19⟩ := zrO_some h18
  obtain ⟨zc14, rfl, h20⟩ := zrA1_some h19
  obtain ⟨q4, rfl, h21⟩ := zrI_some h20
  obtain ⟨zq15, zw16, rfl, h22⟩ := zrL_some h21
  obtain ⟨zk17, rfl, h23⟩ := zrKey_some h22
  obtain ⟨q5, rfl, h24⟩ := zrR_some h23
  obtain ⟨rfl, h25⟩ := zrN_some h24
  have h := Option.some.inj h25
  have hu := congrArg Prod.fst h
  have hv := congrArg Prod.snd h
  dsimp only at hu hv
  subst hu
  subst hv
  exact ⟨rfl, (tm_fill (hj rfl) (Lv := [(0, .one (.v false (.int .i64 q0))), (1, .one (.d false false (.prod (.int .i64) (.int .i64)) q1)), (2, .one (.d false false (.prod (.int .i64) (.int .i64)) q2)), (6, .one (.v false (Value.slice none (0 : Nat) (0 : Nat)))), (7, .one (.d false false (.int .i64) q3)), (8, .one (.s false 980 0 (none))), (9, .one (.v false (.int .i64 q4)))]) (by kernel_rfl) ⟨e0, e1, e2, e6, e7, e8, e9, trivial⟩).trans (by kernel_rfl), rfl⟩
theorem co_read_ok (st : Stt) (u : co_U) (v : mov_V) (h : co_read st = some (u, v)) : co_cok st = true ∧ staysA [⟨980, some 8, 0, 0, 69, (.prod (.int .i64) (.int .i64))⟩] [980] st.own = true ∧ co_can st = co_St u v := by
  obtain ⟨h1, h2, h3⟩ := co_rd_ok (fun hb => by rw [Bool.and_eq_true, Bool.and_eq_true] at hb; exact hb.2.2) h
  rw [Bool.and_eq_true, Bool.and_eq_true] at h1
  refine ⟨h1.1, h1.2.1, ?_⟩
  have e : co_can st = ⟨(co_can st).tm, (co_can st).own, 1007⟩ := by kernel_rfl
  rw [e, h2, h3]
  rfl
noncomputable def co_cond (u : co_U) (v : mov_V) : Bool := runC (co_step u) v
noncomputable def co_g (u : co_U) (v : mov_V) : Nat × mov_V := runG (co_step u) v
theorem co_hg : ∀ (u : co_U) (v : mov_V), co_cond u v = true → loopN (co_step u) ((fun u v => runF (co_step u) v) u v) v = some (co_g u v) := by
  exact fun u v h => run_hg h
noncomputable def co_m (st : Stt) : Option (Tr (Ex × Stt)) := sumM co_read co_cond co_St co_g [(0, .exit 0)] st
noncomputable def rgG_L56 : FuncId → Loops := addL 100 [0, 1, 0, 1, 1, 1] co_m rgG_L54
set_option maxRecDepth 100000 in
set_option maxHeartbeats 4000000 in
theorem rgG_L56_ok : LoopsOK Try.prog rgG_L56 :=
  loop_sumF (body := (bodyOf Try.prog 100)) (c := (loopOf (bodyOf Try.prog 100) [1, 1, 1, 0, 1, 0])) (kinds := [.exit 0]) (allow := [(0, .exit 0)]) (St := co_St) (step := co_step) (W := [3, 4, 5, 10, 11, 12, 13, 14, 15, 16, 17, 18, 19, 20, 21, 22, 23, 24, 25, 26, 27, 28, 29, 30, 31, 32, 33, 34, 35, 36, 37, 38, 39, 40, 41, 42, 43, 44, 45, 46, 47, 48, 49, 50, 51, 52, 53, 54, 55, 56, 57, 58, 59, 60, 61, 62, 63, 64, 65, 66, 67, 68, 69, 70, 71, 72, 73, 74, 75, 76, 77, 78, 79, 80, 81, 82, 83, 84, 85, 86, 87, 88]) (As := [⟨980, some 8, 0, 0, 69, (.prod (.int .i64) (.int .i64))⟩]) (ks := [980]) (dd := [1069]) (nx := 1007) (n := 100000) (g := co_g) (cond := co_cond) (fuel := (fun u v => runF (co_step u) v)) (read := co_read) (by kernel_rfl) (rgG_S55_ok) (rgG_L54_ok) 7 ⟨Try.f100, by kernel_rfl, by kernel_rfl⟩ (by kernel_rfl) (by kernel_rfl) (by kernel_rfl) co_step_eq co_hg co_read_ok
theorem co_run {A B : Rl} {an : Int} {l : List Int} (ha : valR A) (hb : valR B) (la : A.length ≤ 10000) (lb : B.length ≤ 10000) (h : Bds A B l) : co_cond (an, A, B, l) (0, []) = true ∧ (co_g (an, A, B, l) (0, [])).1 = 0 ∧ Nr (-1048577) (co_g (an, A, B, l) (0, [])).2.2 ∧ ∀ x, memR (co_g (an, A, B, l) (0, [])).2.2 x ↔ kpR an (memB A x) (memB B x) = true := by
  have hll : l.length ≤ 40000 := by
    have := h.perm.length_eq
    have := flatB_len A
    have := flatB_len B
    rw [List.length_append] at *; omega
  have cA : decide (A.length ≤ 100000) = true := decide_eq_true (by omega)
  have cB : decide (B.length ≤ 100000) = true := decide_eq_true (by omega)
  refine run_val (step := co_step (an, A, B, l)) (Inv := fun s => ∃ (i : Nat) (out : Rl), s = ((i : Int), out) ∧ out.length ≤ i ∧ i ≤ l.length - 1 ∧ (l.length = 0 → out = []) ∧ (0 < l.length → Cm (fun x => kpR an (memB A x) (memB B x)) (l.getD i 0) out)) (μ := fun s => l.length - s.1.toNat) (Q := fun t => t.1 = 0 ∧ Nr (-1048577) t.2.2 ∧ ∀ x, memR t.2.2 x ↔ kpR an (memB A x) (memB B x) = true) ?_ _ _ (Nat.lt_succ_self _) ⟨0, [], rfl, Nat.le_refl _, Nat.zero_le _, fun _ => rfl, fun h0 => h.start ha hb h0 an⟩
  rintro s ⟨i, out, rfl, ho, hi, h0, hc⟩
  have w1 : IntKind.wrap .i64 ((i : Int) + (1 : Int)) = ((i + 1 : Nat) : Int) := by rw [wid (by omega) (by omega)]; omega
  by_cases hi1 : i + 1 < l.length
  · have hcm := hc (by omega)
    have hi0 : i < l.length := by omega
    have hlt : l.getD i 0 ≤ l.getD (i + 1) 0 := h.srt i (i + 1) (by omega) hi1
    have mu : l.length - ((i + 1 : Nat) : Int).toNat < l.length - (i : Int).toNat := by omega
    by_cases he : l.getD i 0 = l.getD (i + 1) 0
    · have b1 : (l.getD i 0 == l.getD (i + 1) 0) = true := by rw [he]; exact beq_self_eq_true _
      refine ⟨.inl (((i + 1 : Nat) : Int), out), ?_, ⟨i + 1, out, rfl, by omega, by omega, h0, fun _ => he ▸ hcm⟩, mu⟩
      simp only [co_step, Tr.val, w1, lt_t hi1, lt_t hi0, nn_t, el_i0, b1, Bool.and_self, cond_true]
    · have b1 : (l.getD i 0 == l.getD (i + 1) 0) = false := by rw [beq_eq_false_iff_ne]; exact he
      cases hk : kpR an (memB A (l.getD i 0)) (memB B (l.getD i 0))
      · have hk' := hk
        unfold kpR at hk'
        refine ⟨.inl (((i + 1 : Nat) : Int), out), ?_, ⟨i + 1, out, rfl, by omega, by omega, h0, fun _ => cm_no hcm hlt fun x h1 h2 => (h.same hi1 h1 h2 an).trans hk⟩, mu⟩
        simp only [co_step, Tr.val, w1, lt_t hi1, lt_t hi0, nn_t, el_i0, b1, cA, cB, hk', Bool.not_false, Bool.and_self, cond_true, cond_false]
      · have hk' := hk
        unfold kpR at hk'
        have hput := cm_yes hcm (h.low ha hb hi0) (by omega) fun x h1 h2 => (h.same hi1 h1 h2 an).trans hk
        refine ⟨.inl (((i + 1 : Nat) : Int), putU out (l.getD i 0) (l.getD (i + 1) 0)), ?_, ⟨i + 1, _, rfl, by have := putU_len out (l.getD i 0) (l.getD (i + 1) 0); omega, by omega, fun e => by omega, fun _ => hput⟩, mu⟩
        clear hput hcm
        unfold putU
        cases hcl : out.length with
        | zero =>
          have e : out = [] := List.length_eq_zero_iff.1 hcl
          subst e
          have d1 : decide (((0 : Nat) : Int) > (0 : Int)) = false := rfl
          obtain ⟨r1, r2⟩ := room16 (n := 0 + 1) (by omega)
          simp only [co_step, Tr.val, w1, lt_t hi1, lt_t hi0, nn_t, el_i0, b1, cA, cB, hk', List.length_nil, d1, r1, r2, Bool.not_true, Bool.and_self, cond_true, cond_false]
          rfl
        | succ n =>
          have hnl : n < out.length := by omega
          have e1 : IntKind.wrap .i64 (((n + 1 : Nat) : Int) - (1 : Int)) = (n : Int) := by rw [wid (by omega) (by omega)]; omega
          have d1 : decide (((n + 1 : Nat) : Int) > (0 : Int)) = true := decide_eq_true (by omega)
          have d2 : decide ((n : Int) < ((n + 1 : Nat) : Int)) = true := decide_eq_true (by omega)
          have d3 : decide (n < n + 1) = true := decide_eq_true (by omega)
          have d6 : decide (0 < n + 1) = true := decide_eq_true (by omega)
          have el : lastR out = out[n] := by
            unfold lastR
            rw [hcl, List.getD, Nat.add_sub_cancel, List.getElem?_eq_getElem hnl]; rfl
          obtain ⟨r1, r2⟩ := room16 (n := n + 1 + 1) (by omega)
          rw [el, d6]
          simp only [co_step, Tr.val, w1, lt_t hi1, lt_t hi0, nn_t, el_i0, b1, cA, cB, hk', hcl, e1, d1, d2, d3, el_r hnl, r1, r2, Int.toNat_natCast, Bool.not_true, Bool.and_self, cond_true, cond_false, Nat.add_sub_cancel]
          cases out[n].2 == l.getD i 0 <;> rfl
  · have d : decide (((i + 1 : Nat) : Int) < (l.length : Int)) = false := decide_eq_false (by omega)
    refine ⟨.inr (0, ((i : Int), out)), by simp only [co_step, Tr.val, w1, d, cond_false], rfl, ?_⟩
    by_cases hl0 : l.length = 0
    · rw [h0 hl0]
      exact ⟨trivial, fun x => ⟨fun g => absurd g (memR_nil x), fun g => by rw [h.none hl0] at g; cases g⟩⟩
    · have hcm := hc (by omega)
      exact ⟨hcm.nr, fun x => h.fin (by omega) hcm x⟩
set_option maxRecDepth 100000 in
theorem coc_tree (an : Int) (A : (Ty.list (.prod (.int .i64) (.int .i64))).den) (B : (Ty.list (.prod (.int .i64) (.int .i64))).den) : evalF Try.prog rgG_S55 (opens []) rgG_L56 9 100 [.one (.v false (.int .i64 an)), .one (.d false false (.prod (.int .i64) (.int .i64)) A), .one (.d false false (.prod (.int .i64) (.int .i64)) B)] = .br (((decide (List.length A ≤ (10000 : Nat)) && decide (List.length B ≤ (10000 : Nat))) && ((co_cond (an, A, B, bdsV A B) ((0 : Int), [])) && (Nat.beq (Prod.fst (co_g (an, A, B, bdsV A B) ((0 : Int), []))) (0 : Nat))))) (.ret (.one (.d false false (.prod (.int .i64) (.int .i64)) (Prod.snd (Prod.snd (co_g (an, A, B, bdsV A B) ((0 : Int), []))))))) (.bad 116) := by kernel_rfl
theorem coc_val (an : Int) (A : (Ty.list (.prod (.int .i64) (.int .i64))).den) (B : (Ty.list (.prod (.int .i64) (.int .i64))).den) (hc : ((valB A && valB B) && ((decide (A.length ≤ 10000) && decide (B.length ≤ 10000)) && (decide (0 ≤ an) && decide (an ≤ 2)))) = true) : (.br (((decide (List.length A ≤ (10000 : Nat)) && decide (List.length B ≤ (10000 : Nat))) && ((co_cond (an, A, B, bdsV A B) ((0 : Int), [])) && (Nat.beq (Prod.fst (co_g (an, A, B, bdsV A B) ((0 : Int), []))) (0 : Nat))))) (.ret (.one (.d false false (.prod (.int .i64) (.int .i64)) (Prod.snd (Prod.snd (co_g (an, A, B, bdsV A B) ((0 : Int), []))))))) (.bad 116) : Tr AV).val = some (.one (.d false false (.prod (.int .i64) (.int .i64)) (chL A B (2 - an)))) := by
  obtain ⟨K, rfl⟩ : ∃ K : Rl, K = A := ⟨A, rfl⟩
  obtain ⟨M, rfl⟩ : ∃ K : Rl, K = B := ⟨B, rfl⟩
  simp only [Bool.and_eq_true] at hc
  obtain ⟨⟨h1, h2⟩, ⟨h3, h4⟩, h5, h6⟩ := hc
  have h1 : valR K := valB_iff.1 h1
  have h2 : valR M := valB_iff.1 h2
  have h3 : K.length ≤ 10000 := of_decide_eq_true h3
  have h4 : M.length ≤ 10000 := of_decide_eq_true h4
  have h5 : 0 ≤ an := of_decide_eq_true h5
  have h6 : an ≤ 2 := of_decide_eq_true h6
  obtain ⟨q1, q2⟩ := bds_ok h3 h4
  obtain ⟨v1, v2, v3, v4⟩ := co_run (an := an) h1 h2 h3 h4 ⟨q2, q1⟩
  have e : chL K M (2 - an) = (co_g (an, K, M, bdsV K M) (0, [])).2.2 := ch_eq h1 h2 (2 - an) v3 fun x => by rw [v4, kpR_eq h5 h6]
  rw [e]
  show cond _ _ _ = _
  simp only [decide_eq_true h3, decide_eq_true h4, v1, v2, Nat.beq, Bool.and_self, cond_true, Tr.val]
noncomputable def coc_g : List AV → Option (Tr AV)
  | [.one (.v _ (.int .i64 an)), .one (.d _ _ (.prod (.int .i64) (.int .i64)) A), .one (.d _ _ (.prod (.int .i64) (.int .i64)) B)] => some (.br ((valB A && valB B) && ((decide (A.length ≤ 10000) && decide (B.length ≤ 10000)) && (decide (0 ≤ an) && decide (an ≤ 2)))) (.ret (.one (.d false false (.prod (.int .i64) (.int .i64)) (chL A B (2 - an))))) (.bad 900))
  | _ => none
set_option maxHeartbeats 4000000 in
theorem coc_ok : FunOK Try.prog 100 coc_g := by
  refine fun_ok (by kernel_rfl) (rgG_S55_ok) (rgG_L56_ok) 9 (On := (opens [])) (fun args t h => ?_)
  unfold coc_g at h
  split at h
  · rename_i _ an _ _ A _ _ B
    simp only [Option.some.injEq] at h
    subst h
    refine ⟨[.one (.v false (.int .i64 an)), .one (.d false false (.prod (.int .i64) (.int .i64)) A), .one (.d false false (.prod (.int .i64) (.int .i64)) B)], rfl, fun fr w us h => h, fun r hr => ?_⟩
    obtain ⟨hc, hr⟩ := br_bad hr
    simp only [Tr.val, Option.some.injEq] at hr
    subst hr
    rw [coc_tree]
    exact coc_val an A B hc
  · cases h
noncomputable def rgG_S57 : Sums := addS 100 coc_g rgG_S55
theorem rgG_S57_ok : SumOK Try.prog rgG_S57 := addS_ok (coc_ok) (rgG_S55_ok)
abbrev op_U : Type := Int × (Ty.list (.prod (.int .i64) (.list (.prod (.int .i64) (.int .i64))))).den × (Ty.list (.prod (.int .i64) (.list (.prod (.int .i64) (.int .i64))))).den
noncomputable def op_St (u : op_U) (v : ctb1_U) : Stt := ⟨[.one (.v false (.int .i64 u.1)), .one .junk, .one .junk, .one .junk, .one (.p 0 0), .one (.p 1 0), .one (.p 2 0), .one (.p 3 0), .one (.v false (.int .i64 v.1)), .one (.v false (.int .i64 v.2.1)), .one .junk, .one .junk, .one .junk, .one .junk, .one .junk, .one .junk, .one .junk, .one .junk, .one .junk, .one .junk, .one .junk, .one .junk, .one .junk, .one .junk, .one .junk, .one .junk, .one .junk, .one .junk, .one .junk, .one .junk, .one .junk, .one .junk, .one .junk, .one .junk, .one .junk, .one .junk, .one .junk, .one .junk, .one .junk, .one .junk, .one .junk, .one .junk, .one .junk, .one .junk, .one .junk, .one .junk, .one .junk, .one .junk, .one .junk, .one .junk, .one .junk, .one .junk, .one .junk, .one .junk, .one .junk, .one .junk, .one .junk, .one .junk, .one .junk, .one .junk, .one .junk, .one .junk, .one .junk, .one .junk, .one .junk, .one .junk, .one .junk, .one .junk, .one .junk, .one .junk, .one .junk, .one .junk, .one .junk, .one .junk, .one .junk, .one .junk, .one .junk, .one .junk, .one .junk, .one .junk, .one .junk, .one .junk, .one .junk, .one .junk, .one .junk, .one .junk, .one .junk, .one .junk, .one .junk, .one .junk, .one .junk, .one .junk, .one .junk, .one .junk, .one .junk, .one .junk, .one .junk, .one .junk, .one .junk, .one .junk, .one .junk, .one .junk, .one .junk, .one .junk, .one .junk, .one .junk, .one .junk, .one .junk, .one .junk, .one .junk, .one .junk, .one .junk, .one .junk, .one .junk, .one .junk, .one .junk, .one .junk, .one .junk, .one .junk, .one .junk, .one .junk, .one .junk, .one .junk, .one .junk, .one .junk, .one .junk, .one .junk, .one .junk, .one .junk, .one .junk, .one .junk, .one .junk, .one .junk, .one .junk, .one .junk, .one .junk], [(3, .cells [.s false 980 0 (none)]), (2, .cells [.v false (Value.slice none (0 : Nat) (0 : Nat))]), (1, .cells [.d false false (.prod (.int .i64) (.list (.prod (.int .i64) (.int .i64)))) u.2.1]), (0, .cells [.d false false (.prod (.int .i64) (.list (.prod (.int .i64) (.int .i64)))) u.2.2]), (980, .row true false false 56 (.prod (.int .i64) (.list (.prod (.int .i64) (.int .i64)))) v.2.2)], 1014⟩
noncomputable def op_step (u : op_U) (v : ctb1_U) : Tr (ctb1_U ⊕ (Nat × ctb1_U)) :=
  match u, v with
  | (q0, q3, q4), (q1, q2, q5) => .br (bif decide (q1 < (↑(List.length q4) : Int)) then true else decide (q2 < (↑(List.length q3) : Int))) (.br ((bif q2 == (↑(List.length q3) : Int) then true else (bif decide (q1 < (↑(List.length q4) : Int)) then ((decide ((0 : Int) ≤ q1) && decide (q1 < (↑(List.length q4) : Int))) && (decide ((0 : Int) ≤ q2) && decide (q2 < (↑(List.length q3) : Int)))) else true))) (.br (bif q2 == (↑(List.length q3) : Int) then true else bif decide (q1 < (↑(List.length q4) : Int)) then decide (Prod.fst (el_ilii q4 q1) ≤ Prod.fst (el_ilii q3 q2)) else false) (.br (decide ((0 : Int) ≤ q1) && decide (q1 < (↑(List.length q4) : Int))) (.br ((bif decide (q1 < (↑(List.length q4) : Int)) then (decide ((0 : Int) ≤ q1) && decide (q1 < (↑(List.length q4) : Int))) else true)) (.br (bif decide (q1 < (↑(List.length q4) : Int)) then Prod.fst (el_ilii q4 q1) == Prod.fst (el_ilii q4 q1) else false) (.br (decide ((0 : Int) ≤ q1) && decide (q1 < (↑(List.length q4) : Int))) (.br ((bif decide (q2 < (↑(List.length q3) : Int)) then (decide ((0 : Int) ≤ q2) && decide (q2 < (↑(List.length q3) : Int))) else true)) (.br (bif decide (q2 < (↑(List.length q3) : Int)) then Prod.fst (el_ilii q3 q2) == Prod.fst (el_ilii q4 q1) else false) (.br (decide ((0 : Int) ≤ q2) && decide (q2 < (↑(List.length q3) : Int))) (.br (valB (Prod.snd (el_ilii q4 q1)) && valB (Prod.snd (el_ilii q3 q2)) && (decide (List.length (Prod.snd (el_ilii q4 q1)) ≤ (10000 : Nat)) && decide (List.length (Prod.snd (el_ilii q3 q2)) ≤ (10000 : Nat)) && (decide ((0 : Int) ≤ q0) && decide (q0 ≤ (2 : Int))))) (.br (decide ((↑(List.length (chL (Prod.snd (el_ilii q4 q1)) (Prod.snd (el_ilii q3 q2)) ((2 : Int) - q0))) : Int) > (0 : Int))) (.br (decide ((List.length q5 + (1 : Nat)) * (32 : Nat) ≤ maxNew) && decide (List.length q5 + (1 : Nat) ≤ maxLen)) (.ret (.inl (IntKind.wrap .i64 (q1 + (1 : Int)), IntKind.wrap .i64 (q2 + (1 : Int)), q5 ++ [(Prod.fst (el_ilii q4 q1), chL (Prod.snd (el_ilii q4 q1)) (Prod.snd (el_ilii q3 q2)) ((2 : Int) - q0))]))) (.bad 71)) (.ret (.inl (IntKind.wrap .i64 (q1 + (1 : Int)), IntKind.wrap .i64 (q2 + (1 : Int)), q5)))) (.bad 900)) (.bad 29)) (.br (valB (Prod.snd (el_ilii q4 q1)) && valB [] && (decide (List.length (Prod.snd (el_ilii q4 q1)) ≤ (10000 : Nat)) && decide ((0 : Nat) ≤ (10000 : Nat)) && (decide ((0 : Int) ≤ q0) && decide (q0 ≤ (2 : Int))))) (.br (decide ((↑(List.length (chL (Prod.snd (el_ilii q4 q1)) [] ((2 : Int) - q0))) : Int) > (0 : Int))) (.br (decide ((List.length q5 + (1 : Nat)) * (32 : Nat) ≤ maxNew) && decide (List.length q5 + (1 : Nat) ≤ maxLen)) (.ret (.inl (IntKind.wrap .i64 (q1 + (1 : Int)), q2, q5 ++ [(Prod.fst (el_ilii q4 q1), chL (Prod.snd (el_ilii q4 q1)) [] ((2 : Int) - q0))]))) (.bad 71)) (.ret (.inl (IntKind.wrap .i64 (q1 + (1 : Int)), q2, q5)))) (.bad 900))) (.bad 117)) (.bad 29)) (.br ((bif decide (q2 < (↑(List.length q3) : Int)) then (decide ((0 : Int) ≤ q2) && decide (q2 < (↑(List.length q3) : Int))) else true)) (.br (bif decide (q2 < (↑(List.length q3) : Int)) then Prod.fst (el_ilii q3 q2) == Prod.fst (el_ilii q4 q1) else false) (.br (decide ((0 : Int) ≤ q2) && decide (q2 < (↑(List.length q3) : Int))) (.br (valB [] && valB (Prod.snd (el_ilii q3 q2)) && (decide ((0 : Nat) ≤ (10000 : Nat)) && decide (List.length (Prod.snd (el_ilii q3 q2)) ≤ (10000 : Nat)) && (decide ((0 : Int) ≤ q0) && decide (q0 ≤ (2 : Int))))) (.br (decide ((↑(List.length (chL [] (Prod.snd (el_ilii q3 q2)) ((2 : Int) - q0))) : Int) > (0 : Int))) (.br (decide ((List.length q5 + (1 : Nat)) * (32 : Nat) ≤ maxNew) && decide (List.length q5 + (1 : Nat) ≤ maxLen)) (.ret (.inl (q1, IntKind.wrap .i64 (q2 + (1 : Int)), q5 ++ [(Prod.fst (el_ilii q4 q1), chL [] (Prod.snd (el_ilii q3 q2)) ((2 : Int) - q0))]))) (.bad 71)) (.ret (.inl (q1, IntKind.wrap .i64 (q2 + (1 : Int)), q5)))) (.bad 900)) (.bad 29)) (.br (valB [] && valB [] && (decide ((0 : Nat) ≤ (10000 : Nat)) && decide ((0 : Nat) ≤ (10000 : Nat)) && (decide ((0 : Int) ≤ q0) && decide (q0 ≤ (2 : Int))))) (.br (decide ((↑(List.length (chL [] [] ((2 : Int) - q0))) : Int) > (0 : Int))) (.br (decide ((List.length q5 + (1 : Nat)) * (32 : Nat) ≤ maxNew) && decide (List.length q5 + (1 : Nat) ≤ maxLen)) (.ret (.inl (q1, q2, q5 ++ [(Prod.fst (el_ilii q4 q1), chL [] [] ((2 : Int) - q0))]))) (.bad 71)) (.ret (.inl (q1, q2, q5)))) (.bad 900))) (.bad 117))) (.bad 117)) (.bad 29)) (.br (decide ((0 : Int) ≤ q2) && decide (q2 < (↑(List.length q3) : Int))) (.br ((bif decide (q1 < (↑(List.length q4) : Int)) then (decide ((0 : Int) ≤ q1) && decide (q1 < (↑(List.length q4) : Int))) else true)) (.br (bif decide (q1 < (↑(List.length q4) : Int)) then Prod.fst (el_ilii q4 q1) == Prod.fst (el_ilii q3 q2) else false) (.br (decide ((0 : Int) ≤ q1) && decide (q1 < (↑(List.length q4) : Int))) (.br ((bif decide (q2 < (↑(List.length q3) : Int)) then (decide ((0 : Int) ≤ q2) && decide (q2 < (↑(List.length q3) : Int))) else true)) (.br (bif decide (q2 < (↑(List.length q3) : Int)) then Prod.fst (el_ilii q3 q2) == Prod.fst (el_ilii q3 q2) else false) (.br (decide ((0 : Int) ≤ q2) && decide (q2 < (↑(List.length q3) : Int))) (.br (valB (Prod.snd (el_ilii q4 q1)) && valB (Prod.snd (el_ilii q3 q2)) && (decide (List.length (Prod.snd (el_ilii q4 q1)) ≤ (10000 : Nat)) && decide (List.length (Prod.snd (el_ilii q3 q2)) ≤ (10000 : Nat)) && (decide ((0 : Int) ≤ q0) && decide (q0 ≤ (2 : Int))))) (.br (decide ((↑(List.length (chL (Prod.snd (el_ilii q4 q1)) (Prod.snd (el_ilii q3 q2)) ((2 : Int) - q0))) : Int) > (0 : Int))) (.br (decide ((List.length q5 + (1 : Nat)) * (32 : Nat) ≤ maxNew) && decide (List.length q5 + (1 : Nat) ≤ maxLen)) (.ret (.inl (IntKind.wrap .i64 (q1 + (1 : Int)), IntKind.wrap .i64 (q2 + (1 : Int)), q5 ++ [(Prod.fst (el_ilii q3 q2), chL (Prod.snd (el_ilii q4 q1)) (Prod.snd (el_ilii q3 q2)) ((2 : Int) - q0))]))) (.bad 71)) (.ret (.inl (IntKind.wrap .i64 (q1 + (1 : Int)), IntKind.wrap .i64 (q2 + (1 : Int)), q5)))) (.bad 900)) (.bad 29)) (.br (valB (Prod.snd (el_ilii q4 q1)) && valB [] && (decide (List.length (Prod.snd (el_ilii q4 q1)) ≤ (10000 : Nat)) && decide ((0 : Nat) ≤ (10000 : Nat)) && (decide ((0 : Int) ≤ q0) && decide (q0 ≤ (2 : Int))))) (.br (decide ((↑(List.length (chL (Prod.snd (el_ilii q4 q1)) [] ((2 : Int) - q0))) : Int) > (0 : Int))) (.br (decide ((List.length q5 + (1 : Nat)) * (32 : Nat) ≤ maxNew) && decide (List.length q5 + (1 : Nat) ≤ maxLen)) (.ret (.inl (IntKind.wrap .i64 (q1 + (1 : Int)), q2, q5 ++ [(Prod.fst (el_ilii q3 q2), chL (Prod.snd (el_ilii q4 q1)) [] ((2 : Int) - q0))]))) (.bad 71)) (.ret (.inl (IntKind.wrap .i64 (q1 + (1 : Int)), q2, q5)))) (.bad 900))) (.bad 117)) (.bad 29)) (.br ((bif decide (q2 < (↑(List.length q3) : Int)) then (decide ((0 : Int) ≤ q2) && decide (q2 < (↑(List.length q3) : Int))) else true)) (.br (bif decide (q2 < (↑(List.length q3) : Int)) then Prod.fst (el_ilii q3 q2) == Prod.fst (el_ilii q3 q2) else false) (.br (decide ((0 : Int) ≤ q2) && decide (q2 < (↑(List.length q3) : Int))) (.br (valB [] && valB (Prod.snd (el_ilii q3 q2)) && (decide ((0 : Nat) ≤ (10000 : Nat)) && decide (List.length (Prod.snd (el_ilii q3 q2)) ≤ (10000 : Nat)) && (decide ((0 : Int) ≤ q0) && decide (q0 ≤ (2 : Int))))) (.br (decide ((↑(List.length (chL [] (Prod.snd (el_ilii q3 q2)) ((2 : Int) - q0))) : Int) > (0 : Int))) (.br (decide ((List.length q5 + (1 : Nat)) * (32 : Nat) ≤ maxNew) && decide (List.length q5 + (1 : Nat) ≤ maxLen)) (.ret (.inl (q1, IntKind.wrap .i64 (q2 + (1 : Int)), q5 ++ [(Prod.fst (el_ilii q3 q2), chL [] (Prod.snd (el_ilii q3 q2)) ((2 : Int) - q0))]))) (.bad 71)) (.ret (.inl (q1, IntKind.wrap .i64 (q2 + (1 : Int)), q5)))) (.bad 900)) (.bad 29)) (.br (valB [] && valB [] && (decide ((0 : Nat) ≤ (10000 : Nat)) && decide ((0 : Nat) ≤ (10000 : Nat)) && (decide ((0 : Int) ≤ q0) && decide (q0 ≤ (2 : Int))))) (.br (decide ((↑(List.length (chL [] [] ((2 : Int) - q0))) : Int) > (0 : Int))) (.br (decide ((List.length q5 + (1 : Nat)) * (32 : Nat) ≤ maxNew) && decide (List.length q5 + (1 : Nat) ≤ maxLen)) (.ret (.inl (q1, q2, q5 ++ [(Prod.fst (el_ilii q3 q2), chL [] [] ((2 : Int) - q0))]))) (.bad 71)) (.ret (.inl (q1, q2, q5)))) (.bad 900))) (.bad 117))) (.bad 117)) (.bad 29))) (.bad 117)) (.ret (.inr (0, (q1, q2, q5))))
set_option maxRecDepth 100000 in
set_option maxHeartbeats 4000000 in
theorem op_step_eq : ∀ (u : op_U) (v : ctb1_U), (evalC Try.prog (evalB Try.prog rgG_S57 (opens []) rgG_L56 7).1 (evalB Try.prog rgG_S57 (opens []) rgG_L56 7).2 (opens []) (rgG_L56 77) 100000 (0 :: [0, 0, 1, 1, 1, 1]) (loopOf (bodyOf Try.prog 77) [1, 1, 1, 1, 0, 0]) (op_St u v) []).bind (finF [1, 2, 3, 10, 11, 12, 13, 14, 15, 16, 17, 18, 19, 20, 21, 22, 23, 24, 25, 26, 27, 28, 29, 30, 31, 32, 33, 34, 35, 36, 37, 38, 39, 40, 41, 42, 43, 44, 45, 46, 47, 48, 49, 50, 51, 52, 53, 54, 55, 56, 57, 58, 59, 60, 61, 62, 63, 64, 65, 66, 67, 68, 69, 70, 71, 72, 73, 74, 75, 76, 77, 78, 79, 80, 81, 82, 83, 84, 85, 86, 87, 88, 89, 90, 91, 92, 93, 94, 95, 96, 97, 98, 99, 100, 101, 102, 103, 104, 105, 106, 107, 108, 109, 110, 111, 112, 113, 114, 115, 116, 117, 118, 119, 120, 121, 122, 123, 124, 125, 126, 127, 128, 129, 130, 131, 132, 133, 134, 135] [⟨980, none, 3, 0, 56, (.prod (.int .i64) (.list (.prod (.int .i64) (.int .i64))))⟩] [3, 2, 1, 0, 980] [1107, 1117, 1127] 1014) = (op_step u v).bind (outA (op_St u) [.exit 0]) := by
  rintro ⟨q0, q3, q4⟩ ⟨q1, q2, q5⟩
  kernel_rfl
noncomputable def op_rd (b : Bool) (o0 : Option AV) (o4 : Option AV) (o5 : Option AV) (o6 : Option AV) (o7 : Option AV) (o8 : Option AV) (o9 : Option AV) (own : Own) : Option (op_U × ctb1_U) := zrT b <| zrO o0 fun za1 => zrA1 za1 fun zc2 => zrI .i64 zc2 fun q0 => zrO o4 fun za3 => zrA1 za3 fun zc4 => zrP 0 0 zc4 <| zrO o5 fun za5 => zrA1 za5 fun zc6 => zrP 1 0 zc6 <| zrO o6 fun za7 => zrA1 za7 fun zc8 => zrP 2 0 zc8 <| zrO o7 fun za9 => zrA1 za9 fun zc10 => zrP 3 0 zc10 <| zrO o8 fun za11 => zrA1 za11 fun zc12 => zrI .i64 zc12 fun q1 => zrO o9 fun za13 => zrA1 za13 fun zc14 => zrI .i64 zc14 fun q2 => zrL own fun zq15 zw16 => zrKey 3 zq15 fun zk17 => zrC zk17 fun zl18 => zrL zl18 fun zc19 zr20 => zrSl 980 0 (none) zc19 <| zrN zr20 <| zrL zw16 fun zq21 zw22 => zrKey 2 zq21 fun zk23 => zrC zk23 fun zl24 => zrL zl24 fun zc25 zr26 => zrNil zc25 <| zrN zr26 <| zrL zw22 fun zq27 zw28 => zrKey 1 zq27 fun zk29 => zrC zk29 fun zl30 => zrL zl30 fun zc31 zr32 => zrD (.prod (.int .i64) (.list (.prod (.int .i64) (.int .i64)))) zc31 fun q3 => zrN zr32 <| zrL zw28 fun zq33 zw34 => zrKey 0 zq33 fun zk35 => zrC zk35 fun zl36 => zrL zl36 fun zc37 zr38 => zrD (.prod (.int .i64) (.list (.prod (.int .i64) (.int .i64)))) zc37 fun q4 => zrN zr38 <| zrL zw34 fun zq39 zw40 => zrKey 980 zq39 fun zk41 => zrR true 56 (.prod (.int .i64) (.list (.prod (.int .i64) (.int .i64)))) zk41 fun q5 => zrN zw40 <| some ((q0, q3, q4), (q1, q2, q5))
noncomputable def op_can (st : Stt) : Stt := canA [1, 2, 3, 10, 11, 12, 13, 14, 15, 16, 17, 18, 19, 20, 21, 22, 23, 24, 25, 26, 27, 28, 29, 30, 31, 32, 33, 34, 35, 36, 37, 38, 39, 40, 41, 42, 43, 44, 45, 46, 47, 48, 49, 50, 51, 52, 53, 54, 55, 56, 57, 58, 59, 60, 61, 62, 63, 64, 65, 66, 67, 68, 69, 70, 71, 72, 73, 74, 75, 76, 77, 78, 79, 80, 81, 82, 83, 84, 85, 86, 87, 88, 89, 90, 91, 92, 93, 94, 95, 96, 97, 98, 99, 100, 101, 102, 103, 104, 105, 106, 107, 108, 109, 110, 111, 112, 113, 114, 115, 116, 117, 118, 119, 120, 121, 122, 123, 124, 125, 126, 127, 128, 129, 130, 131, 132, 133, 134, 135] [⟨980, none, 3, 0, 56, (.prod (.int .i64) (.list (.prod (.int .i64) (.int .i64))))⟩] [3, 2, 1, 0, 980] [1107, 1117, 1127] 1014 st
noncomputable def op_cok (st : Stt) : Bool := canAok [1, 2, 3, 10, 11, 12, 13, 14, 15, 16, 17, 18, 19, 20, 21, 22, 23, 24, 25, 26, 27, 28, 29, 30, 31, 32, 33, 34, 35, 36, 37, 38, 39, 40, 41, 42, 43, 44, 45, 46, 47, 48, 49, 50, 51, 52, 53, 54, 55, 56, 57, 58, 59, 60, 61, 62, 63, 64, 65, 66, 67, 68, 69, 70, 71, 72, 73, 74, 75, 76, 77, 78, 79, 80, 81, 82, 83, 84, 85, 86, 87, 88, 89, 90, 91, 92, 93, 94, 95, 96, 97, 98, 99, 100, 101, 102, 103, 104, 105, 106, 107, 108, 109, 110, 111, 112, 113, 114, 115, 116, 117, 118, 119, 120, 121, 122, 123, 124, 125, 126, 127, 128, 129, 130, 131, 132, 133, 134, 135] [⟨980, none, 3, 0, 56, (.prod (.int .i64) (.list (.prod (.int .i64) (.int .i64))))⟩] [3, 2, 1, 0, 980] [1107, 1117, 1127] 1014 st
noncomputable def op_read (st : Stt) : Option (op_U × ctb1_U) := op_rd (op_cok st && (staysA [⟨980, none, 3, 0, 56, (.prod (.int .i64) (.list (.prod (.int .i64) (.int .i64))))⟩] [3, 2, 1, 0, 980] st.own && juAll [1, 2, 3, 10, 11, 12, 13, 14, 15, 16, 17, 18, 19, 20, 21, 22, 23, 24, 25, 26, 27, 28, 29, 30, 31, 32, 33, 34, 35, 36, 37, 38, 39, 40, 41, 42, 43, 44, 45, 46, 47, 48, 49, 50, 51, 52, 53, 54, 55, 56, 57, 58, 59, 60, 61, 62, 63, 64, 65, 66, 67, 68, 69, 70, 71, 72, 73, 74, 75, 76, 77, 78, 79, 80, 81, 82, 83, 84, 85, 86, 87, 88, 89, 90, 91, 92, 93, 94, 95, 96, 97, 98, 99, 100, 101, 102, 103, 104, 105, 106, 107, 108, 109, 110, 111, 112, 113, 114, 115, 116, 117, 118, 119, 120, 121, 122, 123, 124, 125, 126, 127, 128, 129, 130, 131, 132, 133, 134, 135] (op_can st).tm 136)) (op_can st).tm[0]? (op_can st).tm[4]? (op_can st).tm[5]? (op_can st).tm[6]? (op_can st).tm[7]? (op_can st).tm[8]? (op_can st).tm[9]? (op_can st).own
set_option maxRecDepth 100000 in
set_option maxHeartbeats 4000000 in
theorem op_rd_ok {b : Bool} {tm : List AV} {own : Own} {u : op_U} {v : ctb1_U} (hj : b = true → juAll [1, 2, 3, 10, 11, 12, 13, 14, 15, 16, 17, 18, 19, 20, 21, 22, 23, 24, 25, 26, 27, 28, 29, 30, 31, 32, 33, 34, 35, 36, 37, 38, 39, 40, 41, 42, 43, 44, 45, 46, 47, 48, 49, 50, 51, 52, 53, 54, 55, 56, 57, 58, 59, 60, 61, 62, 63, 64, 65, 66, 67, 68, 69, 70, 71, 72, 73, 74, 75, 76, 77, 78, 79, 80, 81, 82, 83, 84, 85, 86, 87, 88, 89, 90, 91, 92, 93, 94, 95, 96, 97, 98, 99, 100, 101, 102, 103, 104, 105, 106, 107, 108, 109, 110, 111, 112, 113, 114, 115, 116, 117, 118, 119, 120, 121, 122, 123, 124, 125, 126, 127, 128, 129, 130, 131, 132, 133, 134, 135] tm 136 = true) (h : op_rd b tm[0]? tm[4]? tm[5]? tm[6]? tm[7]? tm[8]? tm[9]? own = some (u, v)) : b = true ∧ tm = (op_St u v).tm ∧ own = (op_St u v).own := by
  unfold op_rd at h
  obtain ⟨rfl, h0⟩ := zrT_some h
  obtain ⟨za1, e0, h1⟩ := zrO_some h0
  obtain ⟨zc2, rfl, h2⟩ := zrA1_some h1
  obtain ⟨q0, rfl, h3⟩ := zrI_some h2
  obtain ⟨za3, e4, h4⟩ := zrO_some h3
  obtain ⟨zc4, rfl, h5⟩ := zrA1_some h4
  obtain ⟨rfl, h6⟩ := zrP_some h5
  obtain ⟨za5, e5, h7⟩ := zrO_some h6
  obtain ⟨zc6, rfl, h8⟩ := zrA1_some h7
  obtain ⟨rfl, h9⟩ := zrP_some h8
  obtain ⟨za7, e6, h10⟩ := zrO_some h9
  obtain ⟨zc8, rfl, h11⟩ := zrA1_some h10
  obtain ⟨rfl, h12⟩ := zrP_some h11
  obtain ⟨za9, e7, h13⟩ := zrO_some h12
  obtain ⟨zc10, rfl, h14⟩ := zrA1_some h13
  obtain ⟨rfl, h15⟩ := zrP_some h14
  obtain ⟨za11, e8, h16⟩ := zrO_some h15
  obtain ⟨zc12, rfl, h17⟩ := zrA1_some h16
  obtain ⟨q1, rfl, h18⟩ := zrI_some h17
  obtain ⟨za13, e9, h19⟩ := zrO_some h18
  obtain ⟨zc14, rfl, h20⟩ := zrA1_some h19
  obtain ⟨q2, rfl, h21⟩ := zrI_some h20
  obtain ⟨zq15, zw16, rfl, h22⟩ := zrL_some h21
  obtain ⟨zk17, rfl, h23⟩ := zrKey_some h22
  obtain ⟨zl18, rfl, h24⟩ := zrC_some h23
  obtain ⟨zc19, zr20, rfl, h25⟩ := zrL_some h24
  obtain ⟨rfl, h26⟩ := zrSl_some h25
  obtain ⟨rfl, h27⟩ := zrN_some h26
  obtain ⟨zq21, zw22, rfl, h28⟩ := zrL_some h27
  obtain ⟨zk23, rfl, h29⟩ := zrKey_some h28
  obtain ⟨zl24, rfl, h30⟩ := zrC_some h29
  obtain ⟨zc25, zr26, rfl, h31⟩ := zrL_some h30
  obtain ⟨rfl, h32⟩ := zrNil_some h31
  obtain ⟨rfl, h33⟩ := zrN_some h32
  obtain ⟨zq27, zw28, rfl, h34⟩ := zrL_some h33
  obtain ⟨zk29, rfl, h35⟩ := zrKey_some h34
  obtain ⟨zl30, rfl, h36⟩ := zrC_some h35
  obtain ⟨zc31, zr32, rfl, h37⟩ := zrL_some h36
  obtain ⟨q3, rfl, h38⟩ := zrD_some h37
  obtain ⟨rfl, h39⟩ := zrN_some h38
  obtain ⟨zq33, zw34, rfl, h40⟩ := zrL_some h39
  obtain ⟨zk35, rfl, h41⟩ := zrKey_some h40
  obtain ⟨zl36, rfl, h42⟩ := zrC_some h41
  obtain ⟨zc37, zr38, rfl, h43⟩ := zrL_some h42
  obtain ⟨q4, rfl, h44⟩ := zrD_some h43
  obtain ⟨rfl, h45⟩ := zrN_some h44
  obtain ⟨zq39, zw40, rfl, h46⟩ := zrL_some h45
  obtain ⟨zk41, rfl, h47⟩ := zrKey_some h46
  obtain ⟨q5, rfl, h48⟩ := zrR_some h47
  obtain ⟨rfl, h49⟩ := zrN_some h48
  have h := Option.some.inj h49
  have hu := congrArg Prod.fst h
  have hv := congrArg Prod.snd h
  dsimp only at hu hv
  subst hu
  subst hv
  exact ⟨rfl, (tm_fill (hj rfl) (Lv := [(0, .one (.v false (.int .i64 q0))), (4, .one (.p 0 0)), (5, .one (.p 1 0)), (6, .one (.p 2 0)), (7, .one (.p 3 0)), (8, .one (.v false (.int .i64 q1))), (9, .one (.v false (.int .i64 q2)))]) (by kernel_rfl) ⟨e0, e4, e5, e6, e7, e8, e9, trivial⟩).trans (by kernel_rfl), rfl⟩
theorem op_read_ok (st : Stt) (u : op_U) (v : ctb1_U) (h : op_read st = some (u, v)) : op_cok st = true ∧ staysA [⟨980, none, 3, 0, 56, (.prod (.int .i64) (.list (.prod (.int .i64) (.int .i64))))⟩] [3, 2, 1, 0, 980] st.own = true ∧ op_can st = op_St u v := by
  obtain ⟨h1, h2, h3⟩ := op_rd_ok (fun hb => by rw [Bool.and_eq_true, Bool.and_eq_true] at hb; exact hb.2.2) h
  rw [Bool.and_eq_true, Bool.and_eq_true] at h1
  refine ⟨h1.1, h1.2.1, ?_⟩
  have e : op_can st = ⟨(op_can st).tm, (op_can st).own, 1014⟩ := by kernel_rfl
  rw [e, h2, h3]
  rfl
noncomputable def op_cond (u : op_U) (v : ctb1_U) : Bool := runC (op_step u) v
noncomputable def op_g (u : op_U) (v : ctb1_U) : Nat × ctb1_U := runG (op_step u) v
theorem op_hg : ∀ (u : op_U) (v : ctb1_U), op_cond u v = true → loopN (op_step u) ((fun u v => runF (op_step u) v) u v) v = some (op_g u v) := by
  exact fun u v h => run_hg h
noncomputable def op_m (st : Stt) : Option (Tr (Ex × Stt)) := sumM op_read op_cond op_St op_g [(0, .exit 0)] st
noncomputable def rgG_L58 : FuncId → Loops := addL 77 [0, 0, 1, 1, 1, 1] op_m rgG_L56
set_option maxRecDepth 100000 in
set_option maxHeartbeats 4000000 in
theorem rgG_L58_ok : LoopsOK Try.prog rgG_L58 :=
  loop_sumF (body := (bodyOf Try.prog 77)) (c := (loopOf (bodyOf Try.prog 77) [1, 1, 1, 1, 0, 0])) (kinds := [.exit 0]) (allow := [(0, .exit 0)]) (St := op_St) (step := op_step) (W := [1, 2, 3, 10, 11, 12, 13, 14, 15, 16, 17, 18, 19, 20, 21, 22, 23, 24, 25, 26, 27, 28, 29, 30, 31, 32, 33, 34, 35, 36, 37, 38, 39, 40, 41, 42, 43, 44, 45, 46, 47, 48, 49, 50, 51, 52, 53, 54, 55, 56, 57, 58, 59, 60, 61, 62, 63, 64, 65, 66, 67, 68, 69, 70, 71, 72, 73, 74, 75, 76, 77, 78, 79, 80, 81, 82, 83, 84, 85, 86, 87, 88, 89, 90, 91, 92, 93, 94, 95, 96, 97, 98, 99, 100, 101, 102, 103, 104, 105, 106, 107, 108, 109, 110, 111, 112, 113, 114, 115, 116, 117, 118, 119, 120, 121, 122, 123, 124, 125, 126, 127, 128, 129, 130, 131, 132, 133, 134, 135]) (As := [⟨980, none, 3, 0, 56, (.prod (.int .i64) (.list (.prod (.int .i64) (.int .i64))))⟩]) (ks := [3, 2, 1, 0, 980]) (dd := [1107, 1117, 1127]) (nx := 1014) (n := 100000) (g := op_g) (cond := op_cond) (fuel := (fun u v => runF (op_step u) v)) (read := op_read) (by kernel_rfl) (rgG_S57_ok) (rgG_L56_ok) 7 ⟨Try.f77, by kernel_rfl, by kernel_rfl⟩ (by kernel_rfl) (by kernel_rfl) (by kernel_rfl) op_step_eq op_hg op_read_ok
set_option maxHeartbeats 4000000 in
theorem op_run {A B : Rg} {o : Int} (h0 : 0 ≤ o) (h2 : o ≤ 2) (ha : valG A) (hb : valG B) : op_cond (o, B, A) (0, 0, []) = true ∧ (op_g (o, B, A) (0, 0, [])).1 = 0 ∧ (op_g (o, B, A) (0, 0, [])).2.2.2 = combG (2 - o) (A.length + B.length) A B := by
  have la := ng_len ha (by omega)
  have lb := ng_len hb (by omega)
  have o1 : decide ((0 : Int) ≤ o) = true := decide_eq_true h0
  have o2 : decide (o ≤ (2 : Int)) = true := decide_eq_true h2
  have v0 : valB [] = true := valB_iff.2 valR_nil
  have d00 : decide ((0 : Nat) ≤ (10000 : Nat)) = true := rfl
  refine run_val (step := op_step (o, B, A)) (Inv := fun s => ∃ (i k : Nat) (out : Rg) (n : Nat), s = ((i : Int), (k : Int), out) ∧ i ≤ A.length ∧ k ≤ B.length ∧ (A.length - i) + (B.length - k) ≤ n ∧ out.length + n ≤ 20000 ∧ out ++ combG (2 - o) n (A.drop i) (B.drop k) = combG (2 - o) (A.length + B.length) A B) (μ := fun s => (A.length - s.1.toNat) + (B.length - s.2.1.toNat)) (Q := fun t => t.1 = 0 ∧ t.2.2.2 = combG (2 - o) (A.length + B.length) A B) ?_ _ _ (Nat.lt_succ_self _) ⟨0, 0, [], A.length + B.length, rfl, Nat.zero_le _, Nat.zero_le _, by omega, by simp only [List.length_nil]; omega, rfl⟩
  rintro s ⟨i, k, out, n, rfl, hi, hk, hn, hr, ht⟩
  by_cases g : i < A.length ∨ k < B.length
  · obtain ⟨n, rfl⟩ : ∃ j, n = j + 1 := ⟨n - 1, by omega⟩
    have wi : IntKind.wrap .i64 ((i : Int) + (1 : Int)) = ((i + 1 : Nat) : Int) := by rw [wid (by omega) (by omega)]; omega
    have wk : IntKind.wrap .i64 ((k : Int) + (1 : Int)) = ((k + 1 : Nat) : Int) := by rw [wid (by omega) (by omega)]; omega
    have oA : ∀ h : i < A.length, valB A[i].2 = true ∧ decide (A[i].2.length ≤ 10000) = true := fun h => by
      have r := Ng.rows ha _ (List.getElem_mem h)
      exact ⟨valB_iff.2 (rowOk_val r), decide_eq_true (by have := row_len r; omega)⟩
    have oB : ∀ h : k < B.length, valB B[k].2 = true ∧ decide (B[k].2.length ≤ 10000) = true := fun h => by
      have r := Ng.rows hb _ (List.getElem_mem h)
      exact ⟨valB_iff.2 (rowOk_val r), decide_eq_true (by have := row_len r; omega)⟩
    by_cases g1 : i < A.length
    · obtain ⟨vA, vlA⟩ := oA g1
      have c1 := lt_t g1
      have e1 := el_g g1
      have s1 : A.drop i = A[i] :: A.drop (i + 1) := List.drop_eq_getElem_cons g1
      by_cases g2 : k < B.length
      · obtain ⟨vB, vlB⟩ := oB g2
        have c2 := lt_t g2
        have e2 := el_g g2
        have s2 : B.drop k = B[k] :: B.drop (k + 1) := List.drop_eq_getElem_cons g2
        have b2 : ((k : Int) == (B.length : Int)) = false := by rw [beq_eq_false_iff_ne]; omega
        rw [s1, s2] at ht
        rcases Int.lt_trichotomy A[i].1 B[k].1 with q | q | q
        · have q1 : decide (A[i].1 ≤ B[k].1) = true := decide_eq_true (by omega)
          have q2 : (B[k].1 == A[i].1) = false := by rw [beq_eq_false_iff_ne]; omega
          obtain ⟨r1, r2⟩ := room32 (n := out.length + 1) (by omega)
          refine ⟨.inl (((i + 1 : Nat) : Int), ((k : Nat) : Int), out ++ emit A[i].1 (chL A[i].2 [] (2 - o))), ?_, ⟨i + 1, k, _, n, rfl, by omega, by omega, by omega, by have := emit_len A[i].1 (chL A[i].2 [] (2 - o)); rw [List.length_append]; omega, ?_⟩, by show (A.length - ((i + 1 : Nat) : Int).toNat) + (B.length - ((k : Nat) : Int).toNat) < (A.length - (i : Int).toNat) + (B.length - (k : Int).toNat); omega⟩
          · have lp := len_pos (chL A[i].2 [] (2 - o))
            simp only [op_step, Tr.val, nn_t, lp, r1, r2, v0, d00, vA, vB, vlA, vlB, o1, o2, c1, c2, e1, e2, b2, q1, q2, wi, wk, beq_self_eq_true, Bool.and_self, Bool.cond_self, Bool.true_and, cond_true, cond_false]
            unfold emit
            cases decide (0 < (chL A[i].2 [] (2 - o)).length)
            · simp only [cond_false, List.append_nil]
            · rfl
          · rw [List.append_assoc, s2, ← comb_lt (2 - o) n _ _ q]
            exact ht
        · have q1 : decide (A[i].1 ≤ B[k].1) = true := decide_eq_true (by omega)
          have q2 : (B[k].1 == A[i].1) = true := by rw [beq_iff_eq]; omega
          obtain ⟨r1, r2⟩ := room32 (n := out.length + 1) (by omega)
          refine ⟨.inl (((i + 1 : Nat) : Int), ((k + 1 : Nat) : Int), out ++ emit A[i].1 (chL A[i].2 B[k].2 (2 - o))), ?_, ⟨i + 1, k + 1, _, n, rfl, by omega, by omega, by omega, by have := emit_len A[i].1 (chL A[i].2 B[k].2 (2 - o)); rw [List.length_append]; omega, ?_⟩, by show (A.length - ((i + 1 : Nat) : Int).toNat) + (B.length - ((k + 1 : Nat) : Int).toNat) < (A.length - (i : Int).toNat) + (B.length - (k : Int).toNat); omega⟩
          · have lp := len_pos (chL A[i].2 B[k].2 (2 - o))
            simp only [op_step, Tr.val, nn_t, lp, r1, r2, v0, d00, vA, vB, vlA, vlB, o1, o2, c1, c2, e1, e2, b2, q1, q2, wi, wk, beq_self_eq_true, Bool.and_self, Bool.cond_self, Bool.true_and, cond_true, cond_false]
            unfold emit
            cases decide (0 < (chL A[i].2 B[k].2 (2 - o)).length)
            · simp only [cond_false, List.append_nil]
            · rfl
          · rw [List.append_assoc, ← comb_eq (2 - o) n _ _ q]
            exact ht
        · have q1 : decide (A[i].1 ≤ B[k].1) = false := decide_eq_false (by omega)
          have q2 : (A[i].1 == B[k].1) = false := by rw [beq_eq_false_iff_ne]; omega
          obtain ⟨r1, r2⟩ := room32 (n := out.length + 1) (by omega)
          refine ⟨.inl (((i : Nat) : Int), ((k + 1 : Nat) : Int), out ++ emit B[k].1 (chL [] B[k].2 (2 - o))), ?_, ⟨i, k + 1, _, n, rfl, by omega, by omega, by omega, by have := emit_len B[k].1 (chL [] B[k].2 (2 - o)); rw [List.length_append]; omega, ?_⟩, by show (A.length - ((i : Nat) : Int).toNat) + (B.length - ((k + 1 : Nat) : Int).toNat) < (A.length - (i : Int).toNat) + (B.length - (k : Int).toNat); omega⟩
          · have lp := len_pos (chL [] B[k].2 (2 - o))
            simp only [op_step, Tr.val, nn_t, lp, r1, r2, v0, d00, vA, vB, vlA, vlB, o1, o2, c1, c2, e1, e2, b2, q1, q2, wi, wk, beq_self_eq_true, Bool.and_self, Bool.cond_self, Bool.true_and, cond_true, cond_false]
            unfold emit
            cases decide (0 < (chL [] B[k].2 (2 - o)).length)
            · simp only [cond_false, List.append_nil]
            · rfl
          · rw [List.append_assoc, s1, ← comb_gt (2 - o) n _ _ q]
            exact ht
      · have vB := v0
        have vlB := d00
        have c2 : decide ((k : Int) < (B.length : Int)) = false := decide_eq_false (by omega)
        have b2 : ((k : Int) == (B.length : Int)) = true := by rw [beq_iff_eq]; omega
        have s2 : B.drop k = [] := List.drop_eq_nil_of_le (by omega)
        rw [s1, s2] at ht
        · skip
          obtain ⟨r1, r2⟩ := room32 (n := out.length + 1) (by omega)
          refine ⟨.inl (((i + 1 : Nat) : Int), ((k : Nat) : Int), out ++ emit A[i].1 (chL A[i].2 [] (2 - o))), ?_, ⟨i + 1, k, _, n, rfl, by omega, by omega, by omega, by have := emit_len A[i].1 (chL A[i].2 [] (2 - o)); rw [List.length_append]; omega, ?_⟩, by show (A.length - ((i + 1 : Nat) : Int).toNat) + (B.length - ((k : Nat) : Int).toNat) < (A.length - (i : Int).toNat) + (B.length - (k : Int).toNat); omega⟩
          · have lp := len_pos (chL A[i].2 [] (2 - o))
            simp only [op_step, Tr.val, nn_t, lp, r1, r2, v0, d00, vA, vB, vlA, vlB, o1, o2, c1, c2, e1, b2, wi, wk, beq_self_eq_true, Bool.and_self, Bool.cond_self, Bool.true_and, cond_true, cond_false]
            unfold emit
            cases decide (0 < (chL A[i].2 [] (2 - o)).length)
            · simp only [cond_false, List.append_nil]
            · rfl
          · rw [List.append_assoc, s2, ← comb_a (2 - o) n]
            exact ht
    · have vA := v0
      have vlA := d00
      have g2 : k < B.length := by omega
      obtain ⟨vB, vlB⟩ := oB g2
      have c1 : decide ((i : Int) < (A.length : Int)) = false := decide_eq_false (by omega)
      have c2 := lt_t g2
      have e2 := el_g g2
      have s1 : A.drop i = [] := List.drop_eq_nil_of_le (by omega)
      have s2 : B.drop k = B[k] :: B.drop (k + 1) := List.drop_eq_getElem_cons g2
      have b2 : ((k : Int) == (B.length : Int)) = false := by rw [beq_eq_false_iff_ne]; omega
      rw [s1, s2] at ht
      · skip
        obtain ⟨r1, r2⟩ := room32 (n := out.length + 1) (by omega)
        refine ⟨.inl (((i : Nat) : Int), ((k + 1 : Nat) : Int), out ++ emit B[k].1 (chL [] B[k].2 (2 - o))), ?_, ⟨i, k + 1, _, n, rfl, by omega, by omega, by omega, by have := emit_len B[k].1 (chL [] B[k].2 (2 - o)); rw [List.length_append]; omega, ?_⟩, by show (A.length - ((i : Nat) : Int).toNat) + (B.length - ((k + 1 : Nat) : Int).toNat) < (A.length - (i : Int).toNat) + (B.length - (k : Int).toNat); omega⟩
        · have lp := len_pos (chL [] B[k].2 (2 - o))
          simp only [op_step, Tr.val, nn_t, lp, r1, r2, v0, d00, vA, vB, vlA, vlB, o1, o2, c1, c2, e2, b2, wi, wk, beq_self_eq_true, Bool.and_self, Bool.cond_self, Bool.true_and, cond_true, cond_false]
          unfold emit
          cases decide (0 < (chL [] B[k].2 (2 - o)).length)
          · simp only [cond_false, List.append_nil]
          · rfl
        · rw [List.append_assoc, s1, ← comb_b (2 - o) n]
          exact ht
  · have c0 : (bif decide ((i : Int) < (A.length : Int)) then true else decide ((k : Int) < (B.length : Int))) = false := by
      rw [decide_eq_false (show ¬ (i : Int) < (A.length : Int) by omega), decide_eq_false (show ¬ (k : Int) < (B.length : Int) by omega)]; rfl
    rw [List.drop_eq_nil_of_le (by omega), List.drop_eq_nil_of_le (by omega), combG_nil, List.append_nil] at ht
    exact ⟨.inr (0, ((i : Int), (k : Int), out)), by simp only [op_step, Tr.val, c0, cond_false], rfl, ht⟩
noncomputable def rgG_S59 : Sums := rgG_S57
theorem rgG_S59_ok : SumOK Try.prog rgG_S59 := rgG_S57_ok
set_option maxRecDepth 100000 in
theorem rop2_tree (A : (Ty.list (.prod (.int .i64) (.list (.prod (.int .i64) (.int .i64))))).den) (B : (Ty.list (.prod (.int .i64) (.list (.prod (.int .i64) (.int .i64))))).den) : evalF Try.prog rgG_S59 (opens []) rgG_L58 9 58 [.ag [.d false false (.prod (.int .i64) (.list (.prod (.int .i64) (.int .i64)))) A], .ag [.d false false (.prod (.int .i64) (.list (.prod (.int .i64) (.int .i64)))) B]] = .br ((((szG A) && (bif !valGB A then true else ((szG B) && (bif !valGB B then true else ((op_cond ((2 : Int), B, A) ((0 : Int), (0 : Int), [])) && (Nat.beq (Prod.fst (op_g ((2 : Int), B, A) ((0 : Int), (0 : Int), []))) (0 : Nat))))))))) (.ret (.ag [.d false false (.prod (.int .i64) (.list (.prod (.int .i64) (.int .i64)))) (bif !valGB A then [] else bif !valGB B then [] else Prod.snd (Prod.snd (Prod.snd (op_g ((2 : Int), B, A) ((0 : Int), (0 : Int), [])))))])) (.bad 116) := by kernel_rfl
theorem rop2_val (A : (Ty.list (.prod (.int .i64) (.list (.prod (.int .i64) (.int .i64))))).den) (B : (Ty.list (.prod (.int .i64) (.list (.prod (.int .i64) (.int .i64))))).den) (hc : (szG A && szG B) = true) : (.br ((((szG A) && (bif !valGB A then true else ((szG B) && (bif !valGB B then true else ((op_cond ((2 : Int), B, A) ((0 : Int), (0 : Int), [])) && (Nat.beq (Prod.fst (op_g ((2 : Int), B, A) ((0 : Int), (0 : Int), []))) (0 : Nat))))))))) (.ret (.ag [.d false false (.prod (.int .i64) (.list (.prod (.int .i64) (.int .i64)))) (bif !valGB A then [] else bif !valGB B then [] else Prod.snd (Prod.snd (Prod.snd (op_g ((2 : Int), B, A) ((0 : Int), (0 : Int), [])))))])) (.bad 116) : Tr AV).val = some (.ag [.d false false (.prod (.int .i64) (.list (.prod (.int .i64) (.int .i64)))) (opR 0 A B)]) := by
  obtain ⟨K, rfl⟩ : ∃ K : Rg, K = A := ⟨A, rfl⟩
  obtain ⟨M, rfl⟩ : ∃ K : Rg, K = B := ⟨B, rfl⟩
  rw [Bool.and_eq_true] at hc
  have hs : szG K = true := hc.1
  have hs2 : szG M = true := hc.2
  unfold opR
  show cond _ _ _ = _
  cases hv : valGB K
  · simp only [hs, Bool.not_false, Bool.and_self, Bool.false_and, cond_true, cond_false, Tr.val]
  · cases hw : valGB M
    · simp only [hs, hs2, Bool.not_false, Bool.not_true, Bool.and_self, Bool.and_false, cond_true, cond_false, Tr.val]
    · obtain ⟨v1, v2, v3⟩ := op_run (o := 2) (by decide) (by decide) (valGB_iff.1 hv) (valGB_iff.1 hw)
      simp only [hs, hs2, v1, v2, v3, Nat.beq, Bool.not_true, Bool.and_self, cond_true, cond_false, Tr.val]
      rfl
set_option maxHeartbeats 4000000 in
theorem rop2_ok : FunOK Try.prog 58 cmdc_g := by
  refine fun_ok (by kernel_rfl) (rgG_S59_ok) (rgG_L58_ok) 9 (On := (opens [])) (fun args t h => ?_)
  unfold cmdc_g at h
  split at h
  · rename_i _ _ A _ _ B
    simp only [Option.some.injEq] at h
    subst h
    refine ⟨[.ag [.d false false (.prod (.int .i64) (.list (.prod (.int .i64) (.int .i64)))) A], .ag [.d false false (.prod (.int .i64) (.list (.prod (.int .i64) (.int .i64)))) B]], rfl, fun fr w us h => h, fun r hr => ?_⟩
    obtain ⟨hc, hr⟩ := br_bad hr
    simp only [Tr.val, Option.some.injEq] at hr
    subst hr
    rw [rop2_tree]
    exact rop2_val A B hc
  · cases h
noncomputable def rgG_S60 : Sums := addS 58 cmdc_g rgG_S59
theorem rgG_S60_ok : SumOK Try.prog rgG_S60 := addS_ok (rop2_ok) (rgG_S59_ok)
end Go.Proofs.Ytacgchandefjgaa
