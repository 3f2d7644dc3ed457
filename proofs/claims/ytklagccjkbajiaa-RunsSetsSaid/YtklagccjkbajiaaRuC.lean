/-
  Layer 6: Shift and Shrink.
-/
import Derived.Test.YtklagccjkbajiaaProg
import Derived.Test.YtklagccjkbajiaaFvX
import Derived.Test.YtklagccjkbajiaaFvZ
import Derived.Test.YtklagccjkbajiaaAut
import Derived.Test.YtklagccjkbajiaaRd
import Derived.Test.YtklagccjkbajiaaPl
import Derived.Test.YtklagccjkbajiaaScn
import Derived.Test.YtklagccjkbajiaaRunM
import Derived.Test.YtklagccjkbajiaaRuA
import Derived.Test.YtklagccjkbajiaaRuB
namespace Go.Proofs.Ytklagccjkbajiaa
open Go
abbrev rsf_U : Type := (Ty.list (.prod (.int .i64) (.int .i64))).den × Int
abbrev rsf_V : Type := Int × Int × (Ty.list (.prod (.int .i64) (.int .i64))).den
noncomputable def rsf_St (u : rsf_U) (v : rsf_V) : Stt := ⟨[.one (.d false false (.prod (.int .i64) (.int .i64)) u.1), .one (.v false (.int .i64 u.2)), .one .junk, .one .junk, .one (.v false (Value.slice none (0 : Nat) (0 : Nat))), .one (.v false (.int .i64 v.1)), .one (.s false 980 0 (none)), .one (.v false (.int .i64 v.2.1)), .one .junk, .one .junk, .one .junk, .one .junk, .one .junk, .one .junk, .one .junk, .one .junk, .one .junk, .one .junk, .one .junk, .one .junk, .one .junk, .one .junk, .one .junk, .one .junk, .one .junk, .one .junk, .one .junk, .one .junk, .one .junk, .one .junk, .one .junk, .one .junk, .one .junk, .one .junk, .one .junk, .one .junk, .one .junk, .one .junk, .one .junk, .one .junk, .one .junk, .one .junk, .one .junk, .one .junk, .one .junk, .one .junk, .one .junk, .one .junk, .one .junk, .one .junk, .one .junk, .one .junk, .one .junk, .one .junk, .one .junk, .one .junk, .one .junk, .one .junk, .one .junk, .one .junk, .one .junk, .one .junk, .one .junk, .one .junk], [(980, .row true false false 38 (.prod (.int .i64) (.int .i64)) v.2.2)], 1007⟩
noncomputable def rsf_step (u : rsf_U) (v : rsf_V) : Tr (rsf_V ⊕ (Nat × rsf_V)) :=
  match u, v with
  | (q0, q1), (q2, q3, q4) => .br (decide (q3 < (↑(List.length q0) : Int))) (.br ((bif bif decide (q1 > (4194304 : Int)) then true else decide (q1 < (-4194304 : Int)) then true else (decide ((0 : Int) ≤ q3) && decide (q3 < (↑(List.length q0) : Int))))) (.br ((bif bif bif decide (q1 > (4194304 : Int)) then true else decide (q1 < (-4194304 : Int)) then true else !bif decide (IntKind.wrap IntKind.i64 (Prod.fst (el_ii q0 q3) + q1) ≥ (-1048576 : Int)) then decide (IntKind.wrap IntKind.i64 (Prod.fst (el_ii q0 q3) + q1) ≤ (1048576 : Int)) else false then true else (decide ((0 : Int) ≤ q3) && decide (q3 < (↑(List.length q0) : Int))))) (.br (bif bif bif decide (q1 > (4194304 : Int)) then true else decide (q1 < (-4194304 : Int)) then true else !bif decide (IntKind.wrap IntKind.i64 (Prod.fst (el_ii q0 q3) + q1) ≥ (-1048576 : Int)) then decide (IntKind.wrap IntKind.i64 (Prod.fst (el_ii q0 q3) + q1) ≤ (1048576 : Int)) else false then true else !bif decide (IntKind.wrap IntKind.i64 (Prod.snd (el_ii q0 q3) + q1) ≥ (-1048576 : Int)) then decide (IntKind.wrap IntKind.i64 (Prod.snd (el_ii q0 q3) + q1) ≤ (1048576 : Int)) else false) (.ret (.inr (0, (8, q3, q4)))) (.br (decide ((0 : Int) ≤ q3) && decide (q3 < (↑(List.length q0) : Int))) (.br (decide ((0 : Int) ≤ q3) && decide (q3 < (↑(List.length q0) : Int))) (.br (decide ((List.length q4 + (1 : Nat)) * (16 : Nat) ≤ maxNew) && decide (List.length q4 + (1 : Nat) ≤ maxLen)) (.ret (.inl (q2, IntKind.wrap IntKind.i64 (q3 + (1 : Int)), q4 ++ [(IntKind.wrap IntKind.i64 (Prod.fst (el_ii q0 q3) + q1), IntKind.wrap IntKind.i64 (Prod.snd (el_ii q0 q3) + q1))]))) (.bad 71)) (.bad 29)) (.bad 29))) (.bad 117)) (.bad 117)) (.ret (.inr (1, (q2, q3, q4))))
set_option maxRecDepth 100000 in
set_option maxHeartbeats 4000000 in
theorem rsf_step_eq : ∀ (u : rsf_U) (v : rsf_V), (evalC Try.prog (evalB Try.prog ruB_S66 (opens []) ruB_L57 7).1 (evalB Try.prog ruB_S66 (opens []) ruB_L57 7).2 (opens []) (ruB_L57 26) 100000 (0 :: [0, 1, 0, 1, 1, 1]) (loopOf (bodyOf Try.prog 26) [1, 1, 1, 0, 1, 0]) (rsf_St u v) []).bind (finF [2, 3, 8, 9, 10, 11, 12, 13, 14, 15, 16, 17, 18, 19, 20, 21, 22, 23, 24, 25, 26, 27, 28, 29, 30, 31, 32, 33, 34, 35, 36, 37, 38, 39, 40, 41, 42, 43, 44, 45, 46, 47, 48, 49, 50, 51, 52, 53, 54, 55, 56, 57, 58, 59, 60, 61, 62, 63] [⟨980, some 6, 0, 0, 38, (.prod (.int .i64) (.int .i64))⟩] [980] [1056] 1007) = (rsf_step u v).bind (outA (rsf_St u) [.ret, .exit 0]) := by
  rintro ⟨q0, q1⟩ ⟨q2, q3, q4⟩
  kernel_rfl
noncomputable def rsf_rd (b : Bool) (o0 : Option AV) (o1 : Option AV) (o4 : Option AV) (o5 : Option AV) (o6 : Option AV) (o7 : Option AV) (own : Own) : Option (rsf_U × rsf_V) := zrT b <| zrO o0 fun za1 => zrA1 za1 fun zc2 => zrD (.prod (.int .i64) (.int .i64)) zc2 fun q0 => zrO o1 fun za3 => zrA1 za3 fun zc4 => zrI .i64 zc4 fun q1 => zrO o4 fun za5 => zrA1 za5 fun zc6 => zrNil zc6 <| zrO o5 fun za7 => zrA1 za7 fun zc8 => zrI .i64 zc8 fun q2 => zrO o6 fun za9 => zrA1 za9 fun zc10 => zrSl 980 0 (none) zc10 <| zrO o7 fun za11 => zrA1 za11 fun zc12 => zrI .i64 zc12 fun q3 => zrL own fun zq13 zw14 => zrKey 980 zq13 fun zk15 => zrR true 38 (.prod (.int .i64) (.int .i64)) zk15 fun q4 => zrN zw14 <| some ((q0, q1), (q2, q3, q4))
noncomputable def rsf_can (st : Stt) : Stt := canA [2, 3, 8, 9, 10, 11, 12, 13, 14, 15, 16, 17, 18, 19, 20, 21, 22, 23, 24, 25, 26, 27, 28, 29, 30, 31, 32, 33, 34, 35, 36, 37, 38, 39, 40, 41, 42, 43, 44, 45, 46, 47, 48, 49, 50, 51, 52, 53, 54, 55, 56, 57, 58, 59, 60, 61, 62, 63] [⟨980, some 6, 0, 0, 38, (.prod (.int .i64) (.int .i64))⟩] [980] [1056] 1007 st
noncomputable def rsf_cok (st : Stt) : Bool := canAok [2, 3, 8, 9, 10, 11, 12, 13, 14, 15, 16, 17, 18, 19, 20, 21, 22, 23, 24, 25, 26, 27, 28, 29, 30, 31, 32, 33, 34, 35, 36, 37, 38, 39, 40, 41, 42, 43, 44, 45, 46, 47, 48, 49, 50, 51, 52, 53, 54, 55, 56, 57, 58, 59, 60, 61, 62, 63] [⟨980, some 6, 0, 0, 38, (.prod (.int .i64) (.int .i64))⟩] [980] [1056] 1007 st
noncomputable def rsf_read (st : Stt) : Option (rsf_U × rsf_V) := rsf_rd (rsf_cok st && (staysA [⟨980, some 6, 0, 0, 38, (.prod (.int .i64) (.int .i64))⟩] [980] st.own && juAll [2, 3, 8, 9, 10, 11, 12, 13, 14, 15, 16, 17, 18, 19, 20, 21, 22, 23, 24, 25, 26, 27, 28, 29, 30, 31, 32, 33, 34, 35, 36, 37, 38, 39, 40, 41, 42, 43, 44, 45, 46, 47, 48, 49, 50, 51, 52, 53, 54, 55, 56, 57, 58, 59, 60, 61, 62, 63] (rsf_can st).tm 64)) (rsf_can st).tm[0]? (rsf_can st).tm[1]? (rsf_can st).tm[4]? (rsf_can st).tm[5]? (rsf_can st).tm[6]? (rsf_can st).tm[7]? (rsf_can st).own
set_option maxRecDepth 100000 in
set_option maxHeartbeats 4000000 in
theorem rsf_rd_ok {b : Bool} {tm : List AV} {own : Own} {u : rsf_U} {v : rsf_V} (hj : b = true → juAll [2, 3, 8, 9, 10, 11, 12, 13, 14, 15, 16, 17, 18, 19, 20, 21, 22, 23, 24, 25, 26, 27, 28, 29, 30, 31, 32, 33, 34, 35, 36, 37, 38, 39, 40, 41, 42, 43, 44, 45, 46, 47, 48, 49, 50, 51, 52, 53, 54, 55, 56, 57, 58, 59, 60, 61, 62, 63] tm 64 = true) (h : rsf_rd b tm[0]? tm[1]? tm[4]? tm[5]? tm[6]? tm[7]? own = some (u, v)) : b = true ∧ tm = (rsf_St u v).tm ∧ own = (rsf_St u v).own := by
  unfold rsf_rd at h
  obtain ⟨rfl, h0⟩ := zrT_some h
  obtain ⟨za1, e0, h1⟩ := zrO_some h0
  obtain ⟨zc2, rfl, h2⟩ := zrA1_some h1
  obtain ⟨q0, rfl, h3⟩ := zrD_some h2
  obtain ⟨za3, e1, h4⟩ := zrO_some h3
  obtain ⟨zc4, rfl, h5⟩ := zrA1_some h4
  obtain ⟨q1, rfl, h6⟩ := zrI_some h5
  obtain ⟨za5, e4, h7⟩ := zrO_some h6
  obtain ⟨zc6, rfl, h8⟩ := zrA1_some h7
  obtain ⟨rfl, h9⟩ := zrNil_some h8
  obtain ⟨za7, e5, h10⟩ := zrO_some h9
  obtain ⟨zc8, rfl, h11⟩ := zrA1_some h10
  obtain ⟨q2, rfl, h12⟩ := zrI_some h11
  obtain ⟨za9, e6, h13⟩ := zrO_some h12
  obtain ⟨zc10, rfl, h14⟩ := zrA1_some h13
  obtain ⟨rfl, h15⟩ := zrSl_some h14
  obtain ⟨za11, e7, h16⟩ := zrO_some h15
  obtain ⟨zc12, rfl, h17⟩ := zrA1_some h16
  obtain ⟨q3, rfl, h18⟩ := zrI_some h17
  obtain ⟨zq13, zw14, rfl, h19⟩ := zrL_some h18
  obtain ⟨zk15, rfl, h20⟩ := zrKey_some h19
  obtain ⟨q4, rfl, h21⟩ := zrR_some h20
  obtain ⟨rfl, h22⟩ := zrN_some h21
  have h := Option.some.inj h22
  have hu := congrArg Prod.fst h
  have hv := congrArg Prod.snd h
  dsimp only at hu hv
  subst hu
  subst hv
  exact ⟨rfl, (tm_fill (hj rfl) (Lv := [(0, .one (.d false false (.prod (.int .i64) (.int .i64)) q0)), (1, .one (.v false (.int .i64 q1))), (4, .one (.v false (Value.slice none (0 : Nat) (0 : Nat)))), (5, .one (.v false (.int .i64 q2))), (6, .one (.s false 980 0 (none))), (7, .one (.v false (.int .i64 q3)))]) (by kernel_rfl) ⟨e0, e1, e4, e5, e6, e7, trivial⟩).trans (by kernel_rfl), rfl⟩
theorem rsf_read_ok (st : Stt) (u : rsf_U) (v : rsf_V) (h : rsf_read st = some (u, v)) : rsf_cok st = true ∧ staysA [⟨980, some 6, 0, 0, 38, (.prod (.int .i64) (.int .i64))⟩] [980] st.own = true ∧ rsf_can st = rsf_St u v := by
  obtain ⟨h1, h2, h3⟩ := rsf_rd_ok (fun hb => by rw [Bool.and_eq_true, Bool.and_eq_true] at hb; exact hb.2.2) h
  rw [Bool.and_eq_true, Bool.and_eq_true] at h1
  refine ⟨h1.1, h1.2.1, ?_⟩
  have e : rsf_can st = ⟨(rsf_can st).tm, (rsf_can st).own, 1007⟩ := by kernel_rfl
  rw [e, h2, h3]
  rfl
noncomputable def rsf_cond (u : rsf_U) (v : rsf_V) : Bool := runC (rsf_step u) v
noncomputable def rsf_g (u : rsf_U) (v : rsf_V) : Nat × rsf_V := runG (rsf_step u) v
theorem rsf_hg : ∀ (u : rsf_U) (v : rsf_V), rsf_cond u v = true → loopN (rsf_step u) ((fun u v => runF (rsf_step u) v) u v) v = some (rsf_g u v) := by
  exact fun u v h => run_hg h
noncomputable def rsf_m (st : Stt) : Option (Tr (Ex × Stt)) := sumM rsf_read rsf_cond rsf_St rsf_g [(0, .ret), (1, .exit 0)] st
noncomputable def ruC_L51 : FuncId → Loops := addL 26 [0, 1, 0, 1, 1, 1] rsf_m ruB_L57
set_option maxRecDepth 100000 in
set_option maxHeartbeats 4000000 in
theorem ruC_L51_ok : LoopsOK Try.prog ruC_L51 :=
  loop_sumF (body := (bodyOf Try.prog 26)) (c := (loopOf (bodyOf Try.prog 26) [1, 1, 1, 0, 1, 0])) (kinds := [.ret, .exit 0]) (allow := [(0, .ret), (1, .exit 0)]) (St := rsf_St) (step := rsf_step) (W := [2, 3, 8, 9, 10, 11, 12, 13, 14, 15, 16, 17, 18, 19, 20, 21, 22, 23, 24, 25, 26, 27, 28, 29, 30, 31, 32, 33, 34, 35, 36, 37, 38, 39, 40, 41, 42, 43, 44, 45, 46, 47, 48, 49, 50, 51, 52, 53, 54, 55, 56, 57, 58, 59, 60, 61, 62, 63]) (As := [⟨980, some 6, 0, 0, 38, (.prod (.int .i64) (.int .i64))⟩]) (ks := [980]) (dd := [1056]) (nx := 1007) (n := 100000) (g := rsf_g) (cond := rsf_cond) (fuel := (fun u v => runF (rsf_step u) v)) (read := rsf_read) (by kernel_rfl) (ruB_S66_ok) (ruB_L57_ok) 7 ⟨Try.f26, by kernel_rfl, by kernel_rfl⟩ (by kernel_rfl) (by kernel_rfl) (by kernel_rfl) rsf_step_eq rsf_hg rsf_read_ok
abbrev rsk_U : Type := (Ty.list (.prod (.int .i64) (.int .i64))).den × Int
abbrev rsk_V : Type := Int × (Ty.list (.prod (.int .i64) (.int .i64))).den
noncomputable def rsk_St (u : rsk_U) (v : rsk_V) : Stt := ⟨[.one (.d false false (.prod (.int .i64) (.int .i64)) u.1), .one (.v false (.int .i64 u.2)), .one .junk, .one .junk, .one (.v false (Value.slice none (0 : Nat) (0 : Nat))), .one (.s false 980 0 (none)), .one (.v false (.int .i64 v.1)), .one .junk, .one .junk, .one .junk, .one .junk, .one .junk, .one .junk, .one .junk, .one .junk, .one .junk, .one .junk, .one .junk, .one .junk, .one .junk, .one .junk, .one .junk, .one .junk, .one .junk, .one .junk, .one .junk, .one .junk, .one .junk, .one .junk, .one .junk, .one .junk, .one .junk, .one .junk, .one .junk, .one .junk, .one .junk, .one .junk, .one .junk, .one .junk, .one .junk, .one .junk, .one .junk, .one .junk, .one .junk, .one .junk, .one .junk, .one .junk, .one .junk, .one .junk, .one .junk, .one .junk, .one .junk, .one .junk, .one .junk, .one .junk, .one .junk, .one .junk, .one .junk], [(980, .row true false false 38 (.prod (.int .i64) (.int .i64)) v.2)], 1014⟩
noncomputable def rsk_step (u : rsk_U) (v : rsk_V) : Tr (rsk_V ⊕ (Nat × rsk_V)) :=
  match u, v with
  | (q0, q1), (q2, q3) => .br (decide (q2 < (↑(List.length q0) : Int))) (.br (decide ((0 : Int) ≤ q2) && decide (q2 < (↑(List.length q0) : Int))) (.br (decide ((0 : Int) ≤ q2) && decide (q2 < (↑(List.length q0) : Int))) (.br (decide (IntKind.wrap IntKind.i64 (Prod.fst (el_ii q0 q2) + q1) < IntKind.wrap IntKind.i64 (Prod.snd (el_ii q0 q2) - q1))) (.br (decide ((0 : Int) ≤ q2) && decide (q2 < (↑(List.length q0) : Int))) (.br (decide ((0 : Int) ≤ q2) && decide (q2 < (↑(List.length q0) : Int))) (.br (decide ((List.length q3 + (1 : Nat)) * (16 : Nat) ≤ maxNew) && decide (List.length q3 + (1 : Nat) ≤ maxLen)) (.ret (.inl (IntKind.wrap IntKind.i64 (q2 + (1 : Int)), q3 ++ [(IntKind.wrap IntKind.i64 (Prod.fst (el_ii q0 q2) + q1), IntKind.wrap IntKind.i64 (Prod.snd (el_ii q0 q2) - q1))]))) (.bad 71)) (.bad 29)) (.bad 29)) (.ret (.inl (IntKind.wrap IntKind.i64 (q2 + (1 : Int)), q3)))) (.bad 29)) (.bad 29)) (.ret (.inr (0, (q2, q3))))
set_option maxRecDepth 100000 in
set_option maxHeartbeats 4000000 in
theorem rsk_step_eq : ∀ (u : rsk_U) (v : rsk_V), (evalC Try.prog (evalB Try.prog ruB_S66 (opens []) ruC_L51 7).1 (evalB Try.prog ruB_S66 (opens []) ruC_L51 7).2 (opens []) (ruC_L51 30) 100000 (0 :: [0, 1, 0, 1, 1, 1]) (loopOf (bodyOf Try.prog 30) [1, 1, 1, 0, 1, 0]) (rsk_St u v) []).bind (finF [2, 3, 7, 8, 9, 10, 11, 12, 13, 14, 15, 16, 17, 18, 19, 20, 21, 22, 23, 24, 25, 26, 27, 28, 29, 30, 31, 32, 33, 34, 35, 36, 37, 38, 39, 40, 41, 42, 43, 44, 45, 46, 47, 48, 49, 50, 51, 52, 53, 54, 55, 56, 57] [⟨980, some 5, 0, 0, 38, (.prod (.int .i64) (.int .i64))⟩] [980] [1050] 1014) = (rsk_step u v).bind (outA (rsk_St u) [.exit 0]) := by
  rintro ⟨q0, q1⟩ ⟨q2, q3⟩
  kernel_rfl
noncomputable def rsk_rd (b : Bool) (o0 : Option AV) (o1 : Option AV) (o4 : Option AV) (o5 : Option AV) (o6 : Option AV) (own : Own) : Option (rsk_U × rsk_V) := zrT b <| zrO o0 fun za1 => zrA1 za1 fun zc2 => zrD (.prod (.int .i64) (.int .i64)) zc2 fun q0 => zrO o1 fun za3 => zrA1 za3 fun zc4 => zrI .i64 zc4 fun q1 => zrO o4 fun za5 => zrA1 za5 fun zc6 => zrNil zc6 <| zrO o5 fun za7 => zrA1 za7 fun zc8 => zrSl 980 0 (none) zc8 <| zrO o6 fun za9 => zrA1 za9 fun zc10 => zrI .i64 zc10 fun q2 => zrL own fun zq11 zw12 => zrKey 980 zq11 fun zk13 => zrR true 38 (.prod (.int .i64) (.int .i64)) zk13 fun q3 => zrN zw12 <| some ((q0, q1), (q2, q3))
noncomputable def rsk_can (st : Stt) : Stt := canA [2, 3, 7, 8, 9, 10, 11, 12, 13, 14, 15, 16, 17, 18, 19, 20, 21, 22, 23, 24, 25, 26, 27, 28, 29, 30, 31, 32, 33, 34, 35, 36, 37, 38, 39, 40, 41, 42, 43, 44, 45, 46, 47, 48, 49, 50, 51, 52, 53, 54, 55, 56, 57] [⟨980, some 5, 0, 0, 38, (.prod (.int .i64) (.int .i64))⟩] [980] [1050] 1014 st
noncomputable def rsk_cok (st : Stt) : Bool := canAok [2, 3, 7, 8, 9, 10, 11, 12, 13, 14, 15, 16, 17, 18, 19, 20, 21, 22, 23, 24, 25, 26, 27, 28, 29, 30, 31, 32, 33, 34, 35, 36, 37, 38, 39, 40, 41, 42, 43, 44, 45, 46, 47, 48, 49, 50, 51, 52, 53, 54, 55, 56, 57] [⟨980, some 5, 0, 0, 38, (.prod (.int .i64) (.int .i64))⟩] [980] [1050] 1014 st
noncomputable def rsk_read (st : Stt) : Option (rsk_U × rsk_V) := rsk_rd (rsk_cok st && (staysA [⟨980, some 5, 0, 0, 38, (.prod (.int .i64) (.int .i64))⟩] [980] st.own && juAll [2, 3, 7, 8, 9, 10, 11, 12, 13, 14, 15, 16, 17, 18, 19, 20, 21, 22, 23, 24, 25, 26, 27, 28, 29, 30, 31, 32, 33, 34, 35, 36, 37, 38, 39, 40, 41, 42, 43, 44, 45, 46, 47, 48, 49, 50, 51, 52, 53, 54, 55, 56, 57] (rsk_can st).tm 58)) (rsk_can st).tm[0]? (rsk_can st).tm[1]? (rsk_can st).tm[4]? (rsk_can st).tm[5]? (rsk_can st).tm[6]? (rsk_can st).own
set_option maxRecDepth 100000 in
set_option maxHeartbeats 4000000 in
theorem rsk_rd_ok {b : Bool} {tm : List AV} {own : Own} {u : rsk_U} {v : rsk_V} (hj : b = true → juAll [2, 3, 7, 8, 9, 10, 11, 12, 13, 14, 15, 16, 17, 18, 19, 20, 21, 22, 23, 24, 25, 26, 27, 28, 29, 30, 31, 32, 33, 34, 35, 36, 37, 38, 39, 40, 41, 42, 43, 44, 45, 46, 47, 48, 49, 50, 51, 52, 53, 54, 55, 56, 57] tm 58 = true) (h : rsk_rd b tm[0]? tm[1]? tm[4]? tm[5]? tm[6]? own = some (u, v)) : b = true ∧ tm = (rsk_St u v).tm ∧ own = (rsk_St u v).own := by
  unfold rsk_rd at h
  obtain ⟨rfl, h0⟩ := zrT_some h
  obtain ⟨za1, e0, h1⟩ := zrO_some h0
  obtain ⟨zc2, rfl, h2⟩ := zrA1_some h1
  obtain ⟨q0, rfl, h3⟩ := zrD_some h2
  obtain ⟨za3, e1, h4⟩ := zrO_some h3
  obtain ⟨zc4, rfl, h5⟩ := zrA1_some h4
  obtain ⟨q1, rfl, h6⟩ := zrI_some h5
  obtain ⟨za5, e4, h7⟩ := zrO_some h6
  obtain ⟨zc6, rfl, h8⟩ := zrA1_some h7
  obtain ⟨rfl, h9⟩ := zrNil_some h8
  obtain ⟨za7, e5, h10⟩ := zrO_some h9
  obtain ⟨zc8, rfl, h11⟩ := zrA1_some h10
  obtain ⟨rfl, h12⟩ := zrSl_some h11
  obtain ⟨za9, e6, h13⟩ := zrO_some h12
  obtain ⟨zc10, rfl, h14⟩ := zrA1_some h13
  obtain ⟨q2, rfl, h15⟩ := zrI_some h14
  obtain ⟨zq11, zw12, rfl, h16⟩ := zrL_some h15
  obtain ⟨zk13, rfl, h17⟩ := zrKey_some h16
  obtain ⟨q3, rfl, h18⟩ := zrR_some h17
  obtain ⟨rfl, h19⟩ := zrN_some h18
  have h := Option.some.inj h19
  have hu := congrArg Prod.fst h
  have hv := congrArg Prod.snd h
  dsimp only at hu hv
  subst hu
  subst hv
  exact ⟨rfl, (tm_fill (hj rfl) (Lv := [(0, .one (.d false false (.prod (.int .i64) (.int .i64)) q0)), (1, .one (.v false (.int .i64 q1))), (4, .one (.v false (Value.slice none (0 : Nat) (0 : Nat)))), (5, .one (.s false 980 0 (none))), (6, .one (.v false (.int .i64 q2)))]) (by kernel_rfl) ⟨e0, e1, e4, e5, e6, trivial⟩).trans (by kernel_rfl), rfl⟩
theorem rsk_read_ok (st : Stt) (u : rsk_U) (v : rsk_V) (h : rsk_read st = some (u, v)) : rsk_cok st = true ∧ staysA [⟨980, some 5, 0, 0, 38, (.prod (.int .i64) (.int .i64))⟩] [980] st.own = true ∧ rsk_can st = rsk_St u v := by
  obtain ⟨h1, h2, h3⟩ := rsk_rd_ok (fun hb => by rw [Bool.and_eq_true, Bool.and_eq_true] at hb; exact hb.2.2) h
  rw [Bool.and_eq_true, Bool.and_eq_true] at h1
  refine ⟨h1.1, h1.2.1, ?_⟩
  have e : rsk_can st = ⟨(rsk_can st).tm, (rsk_can st).own, 1014⟩ := by kernel_rfl
  rw [e, h2, h3]
  rfl
noncomputable def rsk_cond (u : rsk_U) (v : rsk_V) : Bool := runC (rsk_step u) v
noncomputable def rsk_g (u : rsk_U) (v : rsk_V) : Nat × rsk_V := runG (rsk_step u) v
theorem rsk_hg : ∀ (u : rsk_U) (v : rsk_V), rsk_cond u v = true → loopN (rsk_step u) ((fun u v => runF (rsk_step u) v) u v) v = some (rsk_g u v) := by
  exact fun u v h => run_hg h
noncomputable def rsk_m (st : Stt) : Option (Tr (Ex × Stt)) := sumM rsk_read rsk_cond rsk_St rsk_g [(0, .exit 0)] st
noncomputable def ruC_L52 : FuncId → Loops := addL 30 [0, 1, 0, 1, 1, 1] rsk_m ruC_L51
set_option maxRecDepth 100000 in
set_option maxHeartbeats 4000000 in
theorem ruC_L52_ok : LoopsOK Try.prog ruC_L52 :=
  loop_sumF (body := (bodyOf Try.prog 30)) (c := (loopOf (bodyOf Try.prog 30) [1, 1, 1, 0, 1, 0])) (kinds := [.exit 0]) (allow := [(0, .exit 0)]) (St := rsk_St) (step := rsk_step) (W := [2, 3, 7, 8, 9, 10, 11, 12, 13, 14, 15, 16, 17, 18, 19, 20, 21, 22, 23, 24, 25, 26, 27, 28, 29, 30, 31, 32, 33, 34, 35, 36, 37, 38, 39, 40, 41, 42, 43, 44, 45, 46, 47, 48, 49, 50, 51, 52, 53, 54, 55, 56, 57]) (As := [⟨980, some 5, 0, 0, 38, (.prod (.int .i64) (.int .i64))⟩]) (ks := [980]) (dd := [1050]) (nx := 1014) (n := 100000) (g := rsk_g) (cond := rsk_cond) (fuel := (fun u v => runF (rsk_step u) v)) (read := rsk_read) (by kernel_rfl) (ruB_S66_ok) (ruC_L51_ok) 7 ⟨Try.f30, by kernel_rfl, by kernel_rfl⟩ (by kernel_rfl) (by kernel_rfl) (by kernel_rfl) rsk_step_eq rsk_hg rsk_read_ok
def shOk (L : Rl) (d : Int) : Bool := L.all fun r => decide (-1048576 ≤ r.1 + d) && decide (r.2 + d ≤ 1048576)
noncomputable def shL (L : Rl) (d : Int) : Rl := bif valB L then (bif shOk L d then mvR L d d else []) else []
noncomputable def shE (L : Rl) (d : Int) : Int := bif valB L then (bif shOk L d then 0 else 8) else 1
noncomputable def skR (L : Rl) (k : Int) : Rl := bif valB L && (decide (0 ≤ k) && decide (k ≤ 1048576)) then mvR L k (-k) else []
theorem rsf_run {L : Rl} {d : Int} (hv : valR L) (hn : L.length ≤ 100000) : rsf_cond (L, d) (0, 0, []) = true ∧ ((shOk L d = true ∧ rsf_g (L, d) (0, 0, []) = (1, (0, (L.length : Int), mvR L d d))) ∨ (shOk L d = false ∧ ∃ j M, rsf_g (L, d) (0, 0, []) = (0, (8, j, M)))) := by
  obtain ⟨h1, h2⟩ := run_all (step := rsf_step (L, d)) (St := fun i => (0, (i : Int), mvR (L.take i) d d)) (Lv := fun i => (0, (8, (i : Int), mvR (L.take i) d d))) (t := (1, (0, (L.length : Int), mvR L d d))) (l := L) (p := fun r => decide (-1048576 ≤ r.1 + d) && decide (r.2 + d ≤ 1048576)) (fun i hi => by
    have g := good_in hv hi
    have hl := mvR_len (L.take i) d d
    rw [List.length_take] at hl
    obtain ⟨r1, r2⟩ := room16 (n := (mvR (L.take i) d d).length + 1) (by omega)
    have d0 : decide (L[i].1 + d < L[i].2 + d) = true := decide_eq_true (by omega)
    rw [mvR_take hi, d0]
    by_cases hd : d > 4194304 ∨ d < -4194304
    · have e : (decide (-1048576 ≤ L[i].1 + d) && decide (L[i].2 + d ≤ 1048576)) = false := by
        rw [← Bool.not_eq_true, Bool.and_eq_true, decide_eq_true_eq, decide_eq_true_eq]; omega
      rw [e]
      by_cases h3 : d > 4194304
      · have d1 : decide (d > (4194304 : Int)) = true := decide_eq_true h3
        simp only [rsf_step, Tr.val, lt_t hi, nn_t, d1, Bool.and_self, cond_true, cond_false]
      · have d1 : decide (d > (4194304 : Int)) = false := decide_eq_false h3
        have d2 : decide (d < (-4194304 : Int)) = true := decide_eq_true (by omega)
        simp only [rsf_step, Tr.val, lt_t hi, nn_t, d1, d2, Bool.and_self, cond_true, cond_false]
    · have d1 : decide (d > (4194304 : Int)) = false := decide_eq_false (by omega)
      have d2 : decide (d < (-4194304 : Int)) = false := decide_eq_false (by omega)
      have w2 : IntKind.wrap IntKind.i64 (L[i].1 + d) = L[i].1 + d := wid (by omega) (by omega)
      have w3 : IntKind.wrap IntKind.i64 (L[i].2 + d) = L[i].2 + d := wid (by omega) (by omega)
      simp only [rsf_step, Tr.val, lt_t hi, nn_t, d1, d2, el_r hi, w2, w3, r1, r2, wi1 hi (show (L.length : Int) ≤ 9223372036854775806 by omega), Bool.and_self, Bool.cond_self, cond_true, cond_false]
      have e : (bif !bif decide (L[i].1 + d ≥ (-1048576 : Int)) then decide (L[i].1 + d ≤ (1048576 : Int)) else false then true else !bif decide (L[i].2 + d ≥ (-1048576 : Int)) then decide (L[i].2 + d ≤ (1048576 : Int)) else false) = !(decide (-1048576 ≤ L[i].1 + d) && decide (L[i].2 + d ≤ 1048576)) := by
        rw [Bool.eq_iff_iff]
        simp [Bool.cond_eq_ite]
        omega
      rw [e]
      cases (decide (-1048576 ≤ L[i].1 + d) && decide (L[i].2 + d ≤ 1048576)) <;> rfl) (by simp only [rsf_step, Tr.val, Int.lt_irrefl, decide_false, cond_false, List.take_length])
  refine ⟨h1, ?_⟩
  rcases h2 with ⟨h, h3⟩ | ⟨h, j, _, _, _, h4⟩
  · exact .inl ⟨h, h3⟩
  · exact .inr ⟨h, _, _, h4⟩
theorem shOk_ends {L : Rl} {d : Int} (hv : valR L) (h0 : 0 < L.length) : shOk L d = (decide (-1048576 ≤ L[0].1 + d) && decide ((L[L.length - 1]'(by omega)).2 + d ≤ 1048576)) := by
  rw [Bool.eq_iff_iff]
  unfold shOk
  rw [List.all_eq_true, Bool.and_eq_true, decide_eq_true_eq, decide_eq_true_eq]
  constructor
  · intro h
    have a := h _ (List.getElem_mem h0)
    have b := h _ (List.getElem_mem (show L.length - 1 < L.length by omega))
    rw [Bool.and_eq_true, decide_eq_true_eq, decide_eq_true_eq] at a b
    exact ⟨a.1, b.2⟩
  · intro ⟨a, b⟩ r hr
    have := val_ends hv h0 r hr
    rw [Bool.and_eq_true, decide_eq_true_eq, decide_eq_true_eq]
    omega
theorem rsk_run {L : Rl} {k : Int} (hv : valR L) (hn : L.length ≤ 100000) (k0 : 0 ≤ k) (k1 : k ≤ 1048576) : rsk_cond (L, k) (0, []) = true ∧ rsk_g (L, k) (0, []) = (0, ((L.length : Int), mvR L k (-k))) := by
  have R := run_steps (step := rsk_step (L, k)) (St := fun j => ((j : Int), mvR (L.take j) k (-k))) (n := L.length) (t := (0, ((L.length : Int), mvR L k (-k)))) (by
    simp only [rsk_step, Tr.val, Int.lt_irrefl, decide_false, cond_false, List.take_length]) L.length 0 (Nat.zero_add _) (fun j _ hj => by
    have g := good_in hv hj
    have w2 : IntKind.wrap IntKind.i64 (L[j].1 + k) = L[j].1 + k := wid (by omega) (by omega)
    have w3 : IntKind.wrap IntKind.i64 (L[j].2 - k) = L[j].2 + -k := by rw [wid (by omega) (by omega)]; omega
    have hl := mvR_len (L.take j) k (-k)
    rw [List.length_take] at hl
    obtain ⟨r1, r2⟩ := room16 (n := (mvR (L.take j) k (-k)).length + 1) (by omega)
    rw [mvR_take hj]
    simp only [rsk_step, Tr.val, lt_t hj, nn_t, el_r hj, w2, w3, r1, r2, wi1 hj (show (L.length : Int) ≤ 9223372036854775806 by omega), Bool.and_self, cond_true]
    cases decide (L[j].1 + k < L[j].2 + -k)
    · simp
    · rfl)
  exact R
set_option maxRecDepth 100000 in
theorem rsfc_tree (L : (Ty.list (.prod (.int .i64) (.int .i64))).den) (d : Int) : evalF Try.prog ruB_S66 (opens []) ruC_L52 9 26 [.one (.d false false (.prod (.int .i64) (.int .i64)) L), .one (.v false (.int .i64 d))] = .br (((decide (List.length L ≤ (100000 : Nat))) && (bif !valB L then true else ((rsf_cond (L, d) ((0 : Int), (0 : Int), [])) && (bif Nat.beq (Prod.fst (rsf_g (L, d) ((0 : Int), (0 : Int), []))) (0 : Nat) then true else (Nat.beq (Prod.fst (rsf_g (L, d) ((0 : Int), (0 : Int), []))) (1 : Nat))))))) (.ret (.tup [(false, [.d false false (.prod (.int .i64) (.int .i64)) (bif !valB L then [] else bif Nat.beq (Prod.fst (rsf_g (L, d) ((0 : Int), (0 : Int), []))) (0 : Nat) then [] else Prod.snd (Prod.snd (Prod.snd (rsf_g (L, d) ((0 : Int), (0 : Int), [])))))]), (false, [.v false (.int .i64 (bif !valB L then (1 : Int) else bif Nat.beq (Prod.fst (rsf_g (L, d) ((0 : Int), (0 : Int), []))) (0 : Nat) then Prod.fst (Prod.snd (rsf_g (L, d) ((0 : Int), (0 : Int), []))) else (0 : Int)))])])) (.bad 116) := by kernel_rfl
theorem rsfc_val (L : (Ty.list (.prod (.int .i64) (.int .i64))).den) (d : Int) (hc : (decide (L.length ≤ 100000)) = true) : (.br (((decide (List.length L ≤ (100000 : Nat))) && (bif !valB L then true else ((rsf_cond (L, d) ((0 : Int), (0 : Int), [])) && (bif Nat.beq (Prod.fst (rsf_g (L, d) ((0 : Int), (0 : Int), []))) (0 : Nat) then true else (Nat.beq (Prod.fst (rsf_g (L, d) ((0 : Int), (0 : Int), []))) (1 : Nat))))))) (.ret (.tup [(false, [.d false false (.prod (.int .i64) (.int .i64)) (bif !valB L then [] else bif Nat.beq (Prod.fst (rsf_g (L, d) ((0 : Int), (0 : Int), []))) (0 : Nat) then [] else Prod.snd (Prod.snd (Prod.snd (rsf_g (L, d) ((0 : Int), (0 : Int), [])))))]), (false, [.v false (.int .i64 (bif !valB L then (1 : Int) else bif Nat.beq (Prod.fst (rsf_g (L, d) ((0 : Int), (0 : Int), []))) (0 : Nat) then Prod.fst (Prod.snd (rsf_g (L, d) ((0 : Int), (0 : Int), []))) else (0 : Int)))])])) (.bad 116) : Tr AV).val = some (.tup [(false, [.d false false (.prod (.int .i64) (.int .i64)) (shL L d)]), (false, [.v false (.int .i64 (shE L d))])]) := by
  obtain ⟨K, rfl⟩ : ∃ K : Rl, K = L := ⟨L, rfl⟩
  have hn := of_decide_eq_true hc
  unfold shL shE
  show cond _ _ _ = _
  cases hv : valB K
  · simp [hn, Tr.val]
  · obtain ⟨v1, v2⟩ := rsf_run (d := d) (valB_iff.1 hv) hn
    rcases v2 with ⟨h, g⟩ | ⟨h, j, M, g⟩
    · simp [hn, v1, g, h, Nat.beq, Tr.val]
    · simp [hn, v1, g, h, Nat.beq, Tr.val]
noncomputable def rsfc_g : List AV → Option (Tr AV)
  | [.one (.d _ _ (.prod (.int .i64) (.int .i64)) L), .one (.v _ (.int .i64 d))] => some (.br (decide (L.length ≤ 100000)) (.ret (.tup [(false, [.d false false (.prod (.int .i64) (.int .i64)) (shL L d)]), (false, [.v false (.int .i64 (shE L d))])])) (.bad 900))
  | _ => none
set_option maxHeartbeats 4000000 in
theorem rsfc_ok : FunOK Try.prog 26 rsfc_g := by
  refine fun_ok (by kernel_rfl) (ruB_S66_ok) (ruC_L52_ok) 9 (On := (opens [])) (fun args t h => ?_)
  unfold rsfc_g at h
  split at h
  · rename_i _ _ L _ d
    simp only [Option.some.injEq] at h
    subst h
    refine ⟨[.one (.d false false (.prod (.int .i64) (.int .i64)) L), .one (.v false (.int .i64 d))], rfl, fun fr w us h => h, fun r hr => ?_⟩
    obtain ⟨hc, hr⟩ := br_bad hr
    simp only [Tr.val, Option.some.injEq] at hr
    subst hr
    rw [rsfc_tree]
    exact rsfc_val L d hc
  · cases h
noncomputable def ruC_S53 : Sums := addS 26 rsfc_g ruB_S66
theorem ruC_S53_ok : SumOK Try.prog ruC_S53 := addS_ok (rsfc_ok) (ruB_S66_ok)
set_option maxRecDepth 100000 in
theorem csfc_tree (L : (Ty.list (.prod (.int .i64) (.int .i64))).den) (d : Int) : evalF Try.prog ruC_S53 (opens []) ruC_L52 9 25 [.one (.d false false (.prod (.int .i64) (.int .i64)) L), .one (.v false (.int .i64 d))] = .br (((decide (List.length L ≤ (100000 : Nat))) && (bif !valB L then true else (bif (↑(List.length L) : Int) == (0 : Int) then true else ((decide ((0 : Int) ≤ (0 : Int)) && decide ((0 : Int) < (↑(List.length L) : Int))) && (((bif decide (d < IntKind.wrap IntKind.i64 ((-1048576 : Int) - Prod.fst (el_ii L (0 : Int)))) then true else (decide ((0 : Int) ≤ IntKind.wrap IntKind.i64 ((↑(List.length L) : Int) - (1 : Int))) && decide (IntKind.wrap IntKind.i64 ((↑(List.length L) : Int) - (1 : Int)) < (↑(List.length L) : Int))))) && (bif bif decide (d < IntKind.wrap IntKind.i64 ((-1048576 : Int) - Prod.fst (el_ii L (0 : Int)))) then true else decide (d > IntKind.wrap IntKind.i64 ((1048576 : Int) - Prod.snd (el_ii L (IntKind.wrap IntKind.i64 ((↑(List.length L) : Int) - (1 : Int)))))) then true else (mvOk L d d)))))))) (.ret (.tup [(false, [.d false false (.prod (.int .i64) (.int .i64)) (bif !valB L then [] else bif (↑(List.length L) : Int) == (0 : Int) then [] else bif bif decide (d < IntKind.wrap IntKind.i64 ((-1048576 : Int) - Prod.fst (el_ii L (0 : Int)))) then true else decide (d > IntKind.wrap IntKind.i64 ((1048576 : Int) - Prod.snd (el_ii L (IntKind.wrap IntKind.i64 ((↑(List.length L) : Int) - (1 : Int)))))) then [] else mvR L d d)]), (false, [.v false (.int .i64 (bif !valB L then (1 : Int) else bif (↑(List.length L) : Int) == (0 : Int) then (0 : Int) else bif bif decide (d < IntKind.wrap IntKind.i64 ((-1048576 : Int) - Prod.fst (el_ii L (0 : Int)))) then true else decide (d > IntKind.wrap IntKind.i64 ((1048576 : Int) - Prod.snd (el_ii L (IntKind.wrap IntKind.i64 ((↑(List.length L) : Int) - (1 : Int)))))) then (8 : Int) else (0 : Int)))])])) (.bad 116) := by kernel_rfl
theorem csfc_val (L : (Ty.list (.prod (.int .i64) (.int .i64))).den) (d : Int) (hc : (decide (L.length ≤ 100000)) = true) : (.br (((decide (List.length L ≤ (100000 : Nat))) && (bif !valB L then true else (bif (↑(List.length L) : Int) == (0 : Int) then true else ((decide ((0 : Int) ≤ (0 : Int)) && decide ((0 : Int) < (↑(List.length L) : Int))) && (((bif decide (d < IntKind.wrap IntKind.i64 ((-1048576 : Int) - Prod.fst (el_ii L (0 : Int)))) then true else (decide ((0 : Int) ≤ IntKind.wrap IntKind.i64 ((↑(List.length L) : Int) - (1 : Int))) && decide (IntKind.wrap IntKind.i64 ((↑(List.length L) : Int) - (1 : Int)) < (↑(List.length L) : Int))))) && (bif bif decide (d < IntKind.wrap IntKind.i64 ((-1048576 : Int) - Prod.fst (el_ii L (0 : Int)))) then true else decide (d > IntKind.wrap IntKind.i64 ((1048576 : Int) - Prod.snd (el_ii L (IntKind.wrap IntKind.i64 ((↑(List.length L) : Int) - (1 : Int)))))) then true else (mvOk L d d)))))))) (.ret (.tup [(false, [.d false false (.prod (.int .i64) (.int .i64)) (bif !valB L then [] else bif (↑(List.length L) : Int) == (0 : Int) then [] else bif bif decide (d < IntKind.wrap IntKind.i64 ((-1048576 : Int) - Prod.fst (el_ii L (0 : Int)))) then true else decide (d > IntKind.wrap IntKind.i64 ((1048576 : Int) - Prod.snd (el_ii L (IntKind.wrap IntKind.i64 ((↑(List.length L) : Int) - (1 : Int)))))) then [] else mvR L d d)]), (false, [.v false (.int .i64 (bif !valB L then (1 : Int) else bif (↑(List.length L) : Int) == (0 : Int) then (0 : Int) else bif bif decide (d < IntKind.wrap IntKind.i64 ((-1048576 : Int) - Prod.fst (el_ii L (0 : Int)))) then true else decide (d > IntKind.wrap IntKind.i64 ((1048576 : Int) - Prod.snd (el_ii L (IntKind.wrap IntKind.i64 ((↑(List.length L) : Int) - (1 : Int)))))) then (8 : Int) else (0 : Int)))])])) (.bad 116) : Tr AV).val = some (.tup [(false, [.d false false (.prod (.int .i64) (.int .i64)) (shL L d)]), (false, [.v false (.int .i64 (shE L d))])]) := by
  obtain ⟨K, rfl⟩ : ∃ K : Rl, K = L := ⟨L, rfl⟩
  have hn := of_decide_eq_true hc
  unfold shL shE
  show cond _ _ _ = _
  cases hv : valB K
  · simp [hn, Tr.val]
  · have h := valB_iff.1 hv
    by_cases h0 : K.length = 0
    · have e : K = [] := List.length_eq_zero_iff.1 h0
      subst e
      simp [shOk, mvR, Tr.val]
    · have hp : 0 < K.length := by omega
      have b0 : ((K.length : Int) == (0 : Int)) = false := by rw [beq_eq_false_iff_ne]; omega
      have a := good_in h hp
      have z := good_in h (j := K.length - 1) (by omega)
      have e0 : el_ii K (0 : Int) = K[0] := el_r (i := 0) hp
      have e1 : IntKind.wrap IntKind.i64 ((K.length : Int) - (1 : Int)) = ((K.length - 1 : Nat) : Int) := by rw [wid (by omega) (by omega)]; omega
      have e2 := el_r (L := K) (i := K.length - 1) (by omega)
      have w1 : IntKind.wrap IntKind.i64 ((-1048576 : Int) - K[0].1) = -1048576 - K[0].1 := wid (by omega) (by omega)
      have w2 : IntKind.wrap IntKind.i64 ((1048576 : Int) - (K[K.length - 1]'(by omega)).2) = 1048576 - (K[K.length - 1]'(by omega)).2 := wid (by omega) (by omega)
      have c0 : decide ((0 : Int) < (K.length : Int)) = true := decide_eq_true (by omega)
      have c1 : decide (((K.length - 1 : Nat) : Int) < (K.length : Int)) = true := decide_eq_true (by omega)
      have c2 : decide ((0 : Int) ≤ ((K.length - 1 : Nat) : Int)) = true := decide_eq_true (by omega)
      have c3 : decide ((0 : Int) ≤ (0 : Int)) = true := rfl
      have hs := shOk_ends (d := d) h hp
      have cn : decide (K.length ≤ 100000) = true := decide_eq_true hn
      simp only [cn, b0, e0, e1, e2, w1, w2, c0, c1, c2, c3, hs, Bool.not_true, Bool.and_self, Bool.cond_self, Bool.true_and, cond_true, cond_false]
      by_cases q1 : d < -1048576 - K[0].1
      · have f1 : decide (d < -1048576 - K[0].1) = true := decide_eq_true q1
        have f2 : decide (-1048576 ≤ K[0].1 + d) = false := decide_eq_false (by omega)
        simp only [f1, f2, Bool.false_and, cond_true, cond_false]
        rfl
      · have f1 : decide (d < -1048576 - K[0].1) = false := decide_eq_false q1
        have f2 : decide (-1048576 ≤ K[0].1 + d) = true := decide_eq_true (by omega)
        by_cases q2 : d > 1048576 - (K[K.length - 1]'(by omega)).2
        · have f3 : decide (d > 1048576 - (K[K.length - 1]'(by omega)).2) = true := decide_eq_true q2
          have f4 : decide ((K[K.length - 1]'(by omega)).2 + d ≤ 1048576) = false := decide_eq_false (by omega)
          simp only [f1, f2, f3, f4, Bool.and_false, cond_true, cond_false]
          rfl
        · have f3 : decide (d > 1048576 - (K[K.length - 1]'(by omega)).2) = false := decide_eq_false q2
          have f4 : decide ((K[K.length - 1]'(by omega)).2 + d ≤ 1048576) = true := decide_eq_true (by omega)
          have mo : mvOk K d d = true := by
            unfold mvOk
            simp only [Bool.and_eq_true, decide_eq_true_eq]
            exact ⟨hv, hn, by omega, by omega, by omega, by omega⟩
          simp only [f1, f2, f3, f4, mo, Bool.and_self, cond_true, cond_false]
          rfl
noncomputable def csfc_g : List AV → Option (Tr AV)
  | [.one (.d _ _ (.prod (.int .i64) (.int .i64)) L), .one (.v _ (.int .i64 d))] => some (.br (decide (L.length ≤ 100000)) (.ret (.tup [(false, [.d false false (.prod (.int .i64) (.int .i64)) (shL L d)]), (false, [.v false (.int .i64 (shE L d))])])) (.bad 900))
  | _ => none
set_option maxHeartbeats 4000000 in
theorem csfc_ok : FunOK Try.prog 25 csfc_g := by
  refine fun_ok (by kernel_rfl) (ruC_S53_ok) (ruC_L52_ok) 9 (On := (opens [])) (fun args t h => ?_)
  unfold csfc_g at h
  split at h
  · rename_i _ _ L _ d
    simp only [Option.some.injEq] at h
    subst h
    refine ⟨[.one (.d false false (.prod (.int .i64) (.int .i64)) L), .one (.v false (.int .i64 d))], rfl, fun fr w us h => h, fun r hr => ?_⟩
    obtain ⟨hc, hr⟩ := br_bad hr
    simp only [Tr.val, Option.some.injEq] at hr
    subst hr
    rw [csfc_tree]
    exact csfc_val L d hc
  · cases h
noncomputable def ruC_S54 : Sums := addS 25 csfc_g ruC_S53
theorem ruC_S54_ok : SumOK Try.prog ruC_S54 := addS_ok (csfc_ok) (ruC_S53_ok)
set_option maxRecDepth 100000 in
theorem rskc_tree (L : (Ty.list (.prod (.int .i64) (.int .i64))).den) (k : Int) : evalF Try.prog ruC_S54 (opens []) ruC_L52 9 30 [.one (.d false false (.prod (.int .i64) (.int .i64)) L), .one (.v false (.int .i64 k))] = .br (((decide (List.length L ≤ (100000 : Nat))) && (bif bif bif !valB L then true else decide (k < (0 : Int)) then true else decide (k > (1048576 : Int)) then true else ((rsk_cond (L, k) ((0 : Int), [])) && (Nat.beq (Prod.fst (rsk_g (L, k) ((0 : Int), []))) (0 : Nat)))))) (.ret (.one (.d false false (.prod (.int .i64) (.int .i64)) (bif bif bif !valB L then true else decide (k < (0 : Int)) then true else decide (k > (1048576 : Int)) then [] else Prod.snd (Prod.snd (rsk_g (L, k) ((0 : Int), []))))))) (.bad 116) := by kernel_rfl
theorem rskc_val (L : (Ty.list (.prod (.int .i64) (.int .i64))).den) (k : Int) (hc : (decide (L.length ≤ 100000)) = true) : (.br (((decide (List.length L ≤ (100000 : Nat))) && (bif bif bif !valB L then true else decide (k < (0 : Int)) then true else decide (k > (1048576 : Int)) then true else ((rsk_cond (L, k) ((0 : Int), [])) && (Nat.beq (Prod.fst (rsk_g (L, k) ((0 : Int), []))) (0 : Nat)))))) (.ret (.one (.d false false (.prod (.int .i64) (.int .i64)) (bif bif bif !valB L then true else decide (k < (0 : Int)) then true else decide (k > (1048576 : Int)) then [] else Prod.snd (Prod.snd (rsk_g (L, k) ((0 : Int), []))))))) (.bad 116) : Tr AV).val = some (.one (.d false false (.prod (.int .i64) (.int .i64)) (skR L k))) := by
  obtain ⟨K, rfl⟩ : ∃ K : Rl, K = L := ⟨L, rfl⟩
  have hn := of_decide_eq_true hc
  unfold skR
  show cond _ _ _ = _
  cases hv : valB K
  · simp [hn, Tr.val]
  · by_cases k0 : k < 0
    · have d1 : decide (k < (0 : Int)) = true := decide_eq_true k0
      have d2 : decide (0 ≤ k) = false := decide_eq_false (by omega)
      simp [hn, d1, d2, Tr.val]
    · have d1 : decide (k < (0 : Int)) = false := decide_eq_false k0
      have d2 : decide (0 ≤ k) = true := decide_eq_true (by omega)
      by_cases k1 : k > 1048576
      · have d3 : decide (k > (1048576 : Int)) = true := decide_eq_true k1
        have d4 : decide (k ≤ 1048576) = false := decide_eq_false (by omega)
        simp only [decide_eq_true hn, d1, d2, d3, d4, Bool.not_true, Bool.and_self, Bool.and_false, Bool.false_and, cond_true, cond_false, Tr.val]
      · have d3 : decide (k > (1048576 : Int)) = false := decide_eq_false k1
        have d4 : decide (k ≤ 1048576) = true := decide_eq_true (by omega)
        obtain ⟨v1, v2⟩ := rsk_run (k := k) (valB_iff.1 hv) hn (by omega) (by omega)
        simp only [decide_eq_true hn, d1, d2, d3, d4, v1, v2, Nat.beq, Bool.not_true, Bool.and_self, Bool.true_and, cond_true, cond_false, Tr.val]
noncomputable def rskc_g : List AV → Option (Tr AV)
  | [.one (.d _ _ (.prod (.int .i64) (.int .i64)) L), .one (.v _ (.int .i64 k))] => some (.br (decide (L.length ≤ 100000)) (.ret (.one (.d false false (.prod (.int .i64) (.int .i64)) (skR L k)))) (.bad 900))
  | _ => none
set_option maxHeartbeats 4000000 in
theorem rskc_ok : FunOK Try.prog 30 rskc_g := by
  refine fun_ok (by kernel_rfl) (ruC_S54_ok) (ruC_L52_ok) 9 (On := (opens [])) (fun args t h => ?_)
  unfold rskc_g at h
  split at h
  · rename_i _ _ L _ k
    simp only [Option.some.injEq] at h
    subst h
    refine ⟨[.one (.d false false (.prod (.int .i64) (.int .i64)) L), .one (.v false (.int .i64 k))], rfl, fun fr w us h => h, fun r hr => ?_⟩
    obtain ⟨hc, hr⟩ := br_bad hr
    simp only [Tr.val, Option.some.injEq] at hr
    subst hr
    rw [rskc_tree]
    exact rskc_val L k hc
  · cases h
noncomputable def ruC_S55 : Sums := addS 30 rskc_g ruC_S54
theorem ruC_S55_ok : SumOK Try.prog ruC_S55 := addS_ok (rskc_ok) (ruC_S54_ok)
set_option maxRecDepth 100000 in
theorem cskc_tree (L : (Ty.list (.prod (.int .i64) (.int .i64))).den) (k : Int) : evalF Try.prog ruC_S55 (opens []) ruC_L52 9 29 [.one (.d false false (.prod (.int .i64) (.int .i64)) L), .one (.v false (.int .i64 k))] = .br (((decide (List.length L ≤ (100000 : Nat))) && (bif bif !valB L then true else decide (k < (0 : Int)) then true else (mvOk L (if (1048576 : Int) < k then (1048576 : Int) else k) (IntKind.wrap IntKind.i64 ((0 : Int) - if (1048576 : Int) < k then (1048576 : Int) else k)))))) (.ret (.one (.d false false (.prod (.int .i64) (.int .i64)) (bif bif !valB L then true else decide (k < (0 : Int)) then [] else mvR L (if (1048576 : Int) < k then (1048576 : Int) else k) (IntKind.wrap IntKind.i64 ((0 : Int) - if (1048576 : Int) < k then (1048576 : Int) else k)))))) (.bad 116) := by kernel_rfl
theorem cskc_val (L : (Ty.list (.prod (.int .i64) (.int .i64))).den) (k : Int) (hc : (decide (L.length ≤ 100000)) = true) : (.br (((decide (List.length L ≤ (100000 : Nat))) && (bif bif !valB L then true else decide (k < (0 : Int)) then true else (mvOk L (if (1048576 : Int) < k then (1048576 : Int) else k) (IntKind.wrap IntKind.i64 ((0 : Int) - if (1048576 : Int) < k then (1048576 : Int) else k)))))) (.ret (.one (.d false false (.prod (.int .i64) (.int .i64)) (bif bif !valB L then true else decide (k < (0 : Int)) then [] else mvR L (if (1048576 : Int) < k then (1048576 : Int) else k) (IntKind.wrap IntKind.i64 ((0 : Int) - if (1048576 : Int) < k then (1048576 : Int) else k)))))) (.bad 116) : Tr AV).val = some (.one (.d false false (.prod (.int .i64) (.int .i64)) (skR L k))) := by
  obtain ⟨K, rfl⟩ : ∃ K : Rl, K = L := ⟨L, rfl⟩
  have hn := of_decide_eq_true hc
  unfold skR
  show cond _ _ _ = _
  cases hv : valB K
  · simp [hn, Tr.val]
  · have h := valB_iff.1 hv
    by_cases k0 : k < 0
    · have d1 : decide (k < (0 : Int)) = true := decide_eq_true k0
      have d2 : decide (0 ≤ k) = false := decide_eq_false (by omega)
      simp [hn, d1, d2, Tr.val]
    · have d1 : decide (k < (0 : Int)) = false := decide_eq_false k0
      have d2 : decide (0 ≤ k) = true := decide_eq_true (by omega)
      have mo : ∀ j : Int, 0 ≤ j → j ≤ 1048576 → IntKind.wrap IntKind.i64 ((0 : Int) - j) = -j ∧ mvOk K j (-j) = true := fun j j0 j1 => by
        refine ⟨by rw [wid (by omega) (by omega)]; omega, ?_⟩
        unfold mvOk
        simp only [Bool.and_eq_true, decide_eq_true_eq]
        exact ⟨hv, hn, by omega, by omega, by omega, by omega⟩
      by_cases k1 : 1048576 < k
      · have d4 : decide (k ≤ 1048576) = false := decide_eq_false (by omega)
        obtain ⟨m1, m2⟩ := mo 1048576 (by omega) (by omega)
        have e : mvR K 1048576 (-1048576) = [] := mvR_none fun r hr => by have := val_in h r hr; omega
        simp only [decide_eq_true hn, d1, d2, d4, if_pos k1, m1, m2, e, Bool.not_true, Bool.and_self, Bool.and_false, Bool.true_and, cond_true, cond_false, Tr.val]
      · have d4 : decide (k ≤ 1048576) = true := decide_eq_true (by omega)
        obtain ⟨m1, m2⟩ := mo k (by omega) (by omega)
        simp only [decide_eq_true hn, d1, d2, d4, if_neg k1, m1, m2, Bool.not_true, Bool.and_self, Bool.true_and, cond_true, cond_false, Tr.val]
noncomputable def cskc_g : List AV → Option (Tr AV)
  | [.one (.d _ _ (.prod (.int .i64) (.int .i64)) L), .one (.v _ (.int .i64 k))] => some (.br (decide (L.length ≤ 100000)) (.ret (.one (.d false false (.prod (.int .i64) (.int .i64)) (skR L k)))) (.bad 900))
  | _ => none
set_option maxHeartbeats 4000000 in
theorem cskc_ok : FunOK Try.prog 29 cskc_g := by
  refine fun_ok (by kernel_rfl) (ruC_S55_ok) (ruC_L52_ok) 9 (On := (opens [])) (fun args t h => ?_)
  unfold cskc_g at h
  split at h
  · rename_i _ _ L _ k
    simp only [Option.some.injEq] at h
    subst h
    refine ⟨[.one (.d false false (.prod (.int .i64) (.int .i64)) L), .one (.v false (.int .i64 k))], rfl, fun fr w us h => h, fun r hr => ?_⟩
    obtain ⟨hc, hr⟩ := br_bad hr
    simp only [Tr.val, Option.some.injEq] at hr
    subst hr
    rw [cskc_tree]
    exact cskc_val L k hc
  · cases h
noncomputable def ruC_S56 : Sums := addS 29 cskc_g ruC_S55
theorem ruC_S56_ok : SumOK Try.prog ruC_S56 := addS_ok (cskc_ok) (ruC_S55_ok)
end Go.Proofs.Ytklagccjkbajiaa
