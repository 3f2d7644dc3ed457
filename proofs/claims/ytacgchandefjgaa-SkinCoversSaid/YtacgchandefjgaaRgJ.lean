/-
  Regions: the document's cells.
-/
import Derived.Test.YtacgchandefjgaaProg
import Derived.Test.YtacgchandefjgaaFvX
import Derived.Test.YtacgchandefjgaaFvZ
import Derived.Test.YtacgchandefjgaaAut
import Derived.Test.YtacgchandefjgaaRd
import Derived.Test.YtacgchandefjgaaPl
import Derived.Test.YtacgchandefjgaaScn
import Derived.Test.YtacgchandefjgaaMor
import Derived.Test.YtacgchandefjgaaRgB
import Derived.Test.YtacgchandefjgaaMoH
namespace Go.Proofs.Ytacgchandefjgaa
open Go
abbrev cel2_V : Type := Int × (Ty.list (.prod (.int .i64) (.int .i64))).den
noncomputable def cel2_St (u : ctb1_U) (v : cel2_V) : Stt := ⟨[.one .junk, .one (.p 0 0), .one (.v false (Value.slice none (0 : Nat) (0 : Nat))), .one (.s false 940 0 (none)), .one (.v false (.int .i64 u.1)), .one (.v false (.int .i64 u.2.1)), .one (.v false (.int .i64 v.1)), .one .junk, .one .junk, .one .junk, .one .junk, .one .junk, .one .junk, .one .junk, .one .junk, .one .junk, .one .junk, .one .junk, .one .junk, .one .junk, .one .junk, .one .junk, .one .junk, .one .junk, .one .junk, .one .junk, .one .junk, .one .junk, .one .junk, .one .junk, .one .junk, .one .junk, .one .junk, .one .junk, .one .junk, .one .junk, .one .junk, .one .junk, .one .junk, .one .junk, .one .junk, .one .junk, .one .junk, .one .junk, .one .junk, .one .junk, .one .junk, .one .junk, .one .junk, .one .junk, .one .junk, .one .junk, .one .junk, .one .junk, .one .junk, .one .junk, .one .junk, .one .junk, .one .junk, .one .junk, .one .junk, .one .junk, .one .junk, .one .junk, .one .junk], [(0, .cells [.d false false (.prod (.int .i64) (.list (.prod (.int .i64) (.int .i64)))) u.2.2]), (980, .dead), (960, .dead), (940, .row true false false 45 (.prod (.int .i64) (.int .i64)) v.2)], 3033⟩
noncomputable def cel2_step (u : ctb1_U) (v : cel2_V) : Tr (cel2_V ⊕ (Nat × cel2_V)) :=
  match u, v with
  | (q0, q1, q3), (q2, q4) => .br (decide ((0 : Int) ≤ q0) && decide (q0 < (↑(List.length q3) : Int))) (.br (decide ((0 : Int) ≤ q1) && decide (q1 < (↑(List.length (Prod.snd (el_ilii q3 q0))) : Int))) (.br (decide (q2 < Prod.snd (el_ii (Prod.snd (el_ilii q3 q0)) q1))) (.br (decide ((0 : Int) ≤ q0) && decide (q0 < (↑(List.length q3) : Int))) (.br (decide ((List.length q4 + (1 : Nat)) * (16 : Nat) ≤ maxNew) && decide (List.length q4 + (1 : Nat) ≤ maxLen)) (.ret (.inl (IntKind.wrap .i64 (q2 + (1 : Int)), q4 ++ [(q2, Prod.fst (el_ilii q3 q0))]))) (.bad 71)) (.bad 29)) (.ret (.inr (0, (q2, q4))))) (.bad 29)) (.bad 29)
set_option maxRecDepth 100000 in
set_option maxHeartbeats 4000000 in
theorem cel2_step_eq : ∀ (u : ctb1_U) (v : cel2_V), (evalC Try.prog (evalB Try.prog moH_S57 (opens []) moH_L55 7).1 (evalB Try.prog moH_S57 (opens []) moH_L55 7).2 (opens []) (moH_L55 35) 100000 (0 :: [0, 1, 0, 0, 1, 0, 0, 1, 0, 0, 1, 0, 0, 1, 0, 1, 1, 1]) (loopOf (bodyOf Try.prog 35) [1, 1, 1, 0, 1, 0, 0, 1, 0, 0, 1, 0, 0, 1, 0, 0, 1, 0]) (cel2_St u v) []).bind (finF [0, 7, 8, 9, 10, 11, 12, 13, 14, 15, 16, 17, 18, 19, 20, 21, 22, 23, 24, 25, 26, 27, 28, 29, 30, 31, 32, 33, 34, 35, 36, 37, 38, 39, 40, 41, 42, 43, 44, 45, 46, 47, 48, 49, 50, 51, 52, 53, 54, 55, 56, 57, 58, 59, 60, 61, 62, 63, 64] [⟨940, some 3, 0, 0, 45, (.prod (.int .i64) (.int .i64))⟩] [0, 980, 960, 940] [980, 960, 3055] 3033) = (cel2_step u v).bind (outA (cel2_St u) [.exit 4]) := by
  rintro ⟨q0, q1, q3⟩ ⟨q2, q4⟩
  kernel_rfl
noncomputable def cel2_rd (b : Bool) (o1 : Option AV) (o2 : Option AV) (o3 : Option AV) (o4 : Option AV) (o5 : Option AV) (o6 : Option AV) (own : Own) : Option (ctb1_U × cel2_V) := zrT b <| zrO o1 fun za1 => zrA1 za1 fun zc2 => zrP 0 0 zc2 <| zrO o2 fun za3 => zrA1 za3 fun zc4 => zrNil zc4 <| zrO o3 fun za5 => zrA1 za5 fun zc6 => zrSl 940 0 (none) zc6 <| zrO o4 fun za7 => zrA1 za7 fun zc8 => zrI .i64 zc8 fun q0 => zrO o5 fun za9 => zrA1 za9 fun zc10 => zrI .i64 zc10 fun q1 => zrO o6 fun za11 => zrA1 za11 fun zc12 => zrI .i64 zc12 fun q2 => zrL own fun zq13 zw14 => zrKey 0 zq13 fun zk15 => zrC zk15 fun zl16 => zrL zl16 fun zc17 zr18 => zrD (.prod (.int .i64) (.list (.prod (.int .i64) (.int .i64)))) zc17 fun q3 => zrN zr18 <| zrL zw14 fun zq19 zw20 => zrKey 980 zq19 fun zk21 => zrX zk21 <| zrL zw20 fun zq22 zw23 => zrKey 960 zq22 fun zk24 => zrX zk24 <| zrL zw23 fun zq25 zw26 => zrKey 940 zq25 fun zk27 => zrR true 45 (.prod (.int .i64) (.int .i64)) zk27 fun q4 => zrN zw26 <| some ((q0, q1, q3), (q2, q4))
noncomputable def cel2_can (st : Stt) : Stt := canA [0, 7, 8, 9, 10, 11, 12, 13, 14, 15, 16, 17, 18, 19, 20, 21, 22, 23, 24, 25, 26, 27, 28, 29, 30, 31, 32, 33, 34, 35, 36, 37, 38, 39, 40, 41, 42, 43, 44, 45, 46, 47, 48, 49, 50, 51, 52, 53, 54, 55, 56, 57, 58, 59, 60, 61, 62, 63, 64] [⟨940, some 3, 0, 0, 45, (.prod (.int .i64) (.int .i64))⟩] [0, 980, 960, 940] [980, 960, 3055] 3033 st
noncomputable def cel2_cok (st : Stt) : Bool := canAok [0, 7, 8, 9, 10, 11, 12, 13, 14, 15, 16, 17, 18, 19, 20, 21, 22, 23, 24, 25, 26, 27, 28, 29, 30, 31, 32, 33, 34, 35, 36, 37, 38, 39, 40, 41, 42, 43, 44, 45, 46, 47, 48, 49, 50, 51, 52, 53, 54, 55, 56, 57, 58, 59, 60, 61, 62, 63, 64] [⟨940, some 3, 0, 0, 45, (.prod (.int .i64) (.int .i64))⟩] [0, 980, 960, 940] [980, 960, 3055] 3033 st
noncomputable def cel2_read (st : Stt) : Option (ctb1_U × cel2_V) := cel2_rd (cel2_cok st && (staysA [⟨940, some 3, 0, 0, 45, (.prod (.int .i64) (.int .i64))⟩] [0, 980, 960, 940] st.own && juAll [0, 7, 8, 9, 10, 11, 12, 13, 14, 15, 16, 17, 18, 19, 20, 21, 22, 23, 24, 25, 26, 27, 28, 29, 30, 31, 32, 33, 34, 35, 36, 37, 38, 39, 40, 41, 42, 43, 44, 45, 46, 47, 48, 49, 50, 51, 52, 53, 54, 55, 56, 57, 58, 59, 60, 61, 62, 63, 64] (cel2_can st).tm 65)) (cel2_can st).tm[1]? (cel2_can st).tm[2]? (cel2_can st).tm[3]? (cel2_can st).tm[4]? (cel2_can st).tm[5]? (cel2_can st).tm[6]? (cel2_can st).own
set_option maxRecDepth 100000 in
set_option maxHeartbeats 4000000 in
theorem cel2_rd_ok {b : Bool} {tm : List AV} {own : Own} {u : ctb1_U} {v : cel2_V} (hj : b = true → juAll [0, 7, 8, 9, 10, 11, 12, 13, 14, 15, 16, 17, 18, 19, 20, 21, 22, 23, 24, 25, 26, 27, 28, 29, 30, 31, 32, 33, 34, 35, 36, 37, 38, 39, 40, 41, 42, 43, 44, 45, 46, 47, 48, 49, 50, 51, 52, 53, 54, 55, 56, 57, 58, 59, 60, 61, 62, 63, 64] tm 65 = true) (h : cel2_rd b tm[1]? tm[2]? tm[3]? tm[4]? tm[5]? tm[6]? own = some (u, v)) : b = true ∧ tm = (cel2_St u v).tm ∧ own = (cel2_St u v).own := by
  unfold cel2_rd at h
  obtain ⟨rfl, h0⟩ := zrT_some h
  obtain ⟨za1, e1, h1⟩ := zrO_some h0
  obtain ⟨zc2, rfl, h2⟩ := zrA1_some h1
  obtain ⟨rfl, h3⟩ := zrP_some h2
  obtain ⟨za3, e2, h4⟩ := zrO_some h3
  obtain ⟨zc4, rfl, h5⟩ := zrA1_some h4
  obtain ⟨rfl, h6⟩ := zrNil_some h5
  obtain ⟨za5, e3, h7⟩ := zrO_some h6
  obtain ⟨zc6, rfl, h8⟩ := zrA1_some h7
  obtain ⟨rfl, h9⟩ := zrSl_some h8
  obtain ⟨za7, e4, h10⟩ := zrO_some h9
  obtain ⟨zc8, rfl, h11⟩ := zrA1_some h10
  obtain ⟨q0, rfl, h12⟩ := zrI_some h11
  obtain ⟨za9, e5, h13⟩ := zrO_some h12
  obtain ⟨zc10, rfl, h14⟩ := zrA1_some h13
  obtain ⟨q1, rfl, h15⟩ := zrI_some h14
  obtain ⟨za11, e6, h16⟩ := zrO_some h15
  obtain ⟨zc12, rfl, h17⟩ := zrA1_some h16
  obtain ⟨q2, rfl, h18⟩ := zrI_some h17
  obtain ⟨zq13, zw14, rfl, h19⟩ := zrL_some h18
  obtain ⟨zk15, rfl, h20⟩ := zrKey_some h19
  obtain ⟨zl16, rfl, h21⟩ := zrC_some h20
  obtain ⟨zc17, zr18, rfl, h22⟩ := zrL_some h21
  obtain ⟨q3, rfl, h23⟩ := zrD_some h22
  obtain ⟨rfl, h24⟩ := zrN_some h23
  obtain ⟨zq19, zw20, rfl, h25⟩ := zrL_some h24
  obtain ⟨zk21, rfl, h26⟩ := zrKey_some h25
  obtain ⟨rfl, h27⟩ := zrX_some h26
  obtain ⟨zq22, zw23, rfl, h28⟩ := zrL_some h27
  obtain ⟨zk24, rfl, h29⟩ := zrKey_some h28
  obtain ⟨rfl, h30⟩ := zrX_some h29
  obtain ⟨zq25, zw26, rfl, h31⟩ := zrL_some h30
  obtain ⟨zk27, rfl, h32⟩ := zrKey_some h31
  obtain ⟨q4, rfl, h33⟩ := zrR_some h32
  obtain ⟨rfl, h34⟩ := zrN_some h33
  have h := Option.some.inj h34
  have hu := congrArg Prod.fst h
  have hv := congrArg Prod.snd h
  dsimp only at hu hv
  subst hu
  subst hv
  exact ⟨rfl, (tm_fill (hj rfl) (Lv := [(1, .one (.p 0 0)), (2, .one (.v false (Value.slice none (0 : Nat) (0 : Nat)))), (3, .one (.s false 940 0 (none))), (4, .one (.v false (.int .i64 q0))), (5, .one (.v false (.int .i64 q1))), (6, .one (.v false (.int .i64 q2)))]) (by kernel_rfl) ⟨e1, e2, e3, e4, e5, e6, trivial⟩).trans (by kernel_rfl), rfl⟩
theorem cel2_read_ok (st : Stt) (u : ctb1_U) (v : cel2_V) (h : cel2_read st = some (u, v)) : cel2_cok st = true ∧ staysA [⟨940, some 3, 0, 0, 45, (.prod (.int .i64) (.int .i64))⟩] [0, 980, 960, 940] st.own = true ∧ cel2_can st = cel2_St u v := by
  obtain ⟨h1, h2, h3⟩ := cel2_rd_ok (fun hb => by rw [Bool.and_eq_true, Bool.and_eq_true] at hb; exact hb.2.2) h
  rw [Bool.and_eq_true, Bool.and_eq_true] at h1
  refine ⟨h1.1, h1.2.1, ?_⟩
  have e : cel2_can st = ⟨(cel2_can st).tm, (cel2_can st).own, 3033⟩ := by kernel_rfl
  rw [e, h2, h3]
  rfl
noncomputable def cel2_cond (u : ctb1_U) (v : cel2_V) : Bool := runC (cel2_step u) v
noncomputable def cel2_g (u : ctb1_U) (v : cel2_V) : Nat × cel2_V := runG (cel2_step u) v
theorem cel2_hg : ∀ (u : ctb1_U) (v : cel2_V), cel2_cond u v = true → loopN (cel2_step u) ((fun u v => runF (cel2_step u) v) u v) v = some (cel2_g u v) := by
  exact fun u v h => run_hg h
noncomputable def cel2_m (st : Stt) : Option (Tr (Ex × Stt)) := sumM cel2_read cel2_cond cel2_St cel2_g [(0, .exit 4)] st
noncomputable def rgJ_L51 : FuncId → Loops := addL 35 [0, 1, 0, 0, 1, 0, 0, 1, 0, 0, 1, 0, 0, 1, 0, 1, 1, 1] cel2_m moH_L55
set_option maxRecDepth 100000 in
set_option maxHeartbeats 4000000 in
theorem rgJ_L51_ok : LoopsOK Try.prog rgJ_L51 :=
  loop_sumF (body := (bodyOf Try.prog 35)) (c := (loopOf (bodyOf Try.prog 35) [1, 1, 1, 0, 1, 0, 0, 1, 0, 0, 1, 0, 0, 1, 0, 0, 1, 0])) (kinds := [.exit 4]) (allow := [(0, .exit 4)]) (St := cel2_St) (step := cel2_step) (W := [0, 7, 8, 9, 10, 11, 12, 13, 14, 15, 16, 17, 18, 19, 20, 21, 22, 23, 24, 25, 26, 27, 28, 29, 30, 31, 32, 33, 34, 35, 36, 37, 38, 39, 40, 41, 42, 43, 44, 45, 46, 47, 48, 49, 50, 51, 52, 53, 54, 55, 56, 57, 58, 59, 60, 61, 62, 63, 64]) (As := [⟨940, some 3, 0, 0, 45, (.prod (.int .i64) (.int .i64))⟩]) (ks := [0, 980, 960, 940]) (dd := [980, 960, 3055]) (nx := 3033) (n := 100000) (g := cel2_g) (cond := cel2_cond) (fuel := (fun u v => runF (cel2_step u) v)) (read := cel2_read) (by kernel_rfl) (moH_S57_ok) (moH_L55_ok) 7 ⟨Try.f35, by kernel_rfl, by kernel_rfl⟩ (by kernel_rfl) (by kernel_rfl) (by kernel_rfl) cel2_step_eq cel2_hg cel2_read_ok
noncomputable def cel1_St (u : ctb0_U) (v : cel2_V) : Stt := ⟨[.one .junk, .one (.p 0 0), .one (.v false (Value.slice none (0 : Nat) (0 : Nat))), .one (.s false 960 0 (none)), .one (.v false (.int .i64 u.1)), .one (.v false (.int .i64 v.1)), .one .junk, .one .junk, .one .junk, .one .junk, .one .junk, .one .junk, .one .junk, .one .junk, .one .junk, .one .junk, .one .junk, .one .junk, .one .junk, .one .junk, .one .junk, .one .junk, .one .junk, .one .junk, .one .junk, .one .junk, .one .junk, .one .junk, .one .junk, .one .junk, .one .junk, .one .junk, .one .junk, .one .junk, .one .junk, .one .junk, .one .junk, .one .junk, .one .junk, .one .junk, .one .junk, .one .junk, .one .junk, .one .junk, .one .junk, .one .junk, .one .junk, .one .junk, .one .junk, .one .junk, .one .junk, .one .junk, .one .junk, .one .junk, .one .junk, .one .junk, .one .junk, .one .junk, .one .junk, .one .junk, .one .junk, .one .junk, .one .junk, .one .junk, .one .junk], [(0, .cells [.d false false (.prod (.int .i64) (.list (.prod (.int .i64) (.int .i64)))) u.2]), (980, .dead), (960, .row true false false 45 (.prod (.int .i64) (.int .i64)) v.2)], 2013⟩
noncomputable def cel1_step (u : ctb0_U) (v : cel2_V) : Tr (cel2_V ⊕ (Nat × cel2_V)) :=
  match u, v with
  | (q0, q2), (q1, q3) => .br (decide ((0 : Int) ≤ q0) && decide (q0 < (↑(List.length q2) : Int))) (.br (decide (q1 < (↑(List.length (Prod.snd (el_ilii q2 q0))) : Int))) (.br (decide ((0 : Int) ≤ q0) && decide (q0 < (↑(List.length q2) : Int))) (.br (decide ((0 : Int) ≤ q1) && decide (q1 < (↑(List.length (Prod.snd (el_ilii q2 q0))) : Int))) (.br (cel2_cond (q0, q1, q2) (Prod.fst (el_ii (Prod.snd (el_ilii q2 q0)) q1), q3)) (.br (Nat.beq (Prod.fst (cel2_g (q0, q1, q2) (Prod.fst (el_ii (Prod.snd (el_ilii q2 q0)) q1), q3))) (0 : Nat)) (.ret (.inl (IntKind.wrap .i64 (q1 + (1 : Int)), Prod.snd (Prod.snd (cel2_g (q0, q1, q2) (Prod.fst (el_ii (Prod.snd (el_ilii q2 q0)) q1), q3)))))) (.bad 902)) (.bad 901)) (.bad 29)) (.bad 29)) (.ret (.inr (0, (q1, q3))))) (.bad 29)
set_option maxRecDepth 100000 in
set_option maxHeartbeats 4000000 in
theorem cel1_step_eq : ∀ (u : ctb0_U) (v : cel2_V), (evalC Try.prog (evalB Try.prog moH_S57 (opens []) rgJ_L51 7).1 (evalB Try.prog moH_S57 (opens []) rgJ_L51 7).2 (opens []) (rgJ_L51 35) 100000 (0 :: [0, 1, 0, 0, 1, 0, 0, 1, 0, 1, 1, 1]) (loopOf (bodyOf Try.prog 35) [1, 1, 1, 0, 1, 0, 0, 1, 0, 0, 1, 0]) (cel1_St u v) []).bind (finF [0, 6, 7, 8, 9, 10, 11, 12, 13, 14, 15, 16, 17, 18, 19, 20, 21, 22, 23, 24, 25, 26, 27, 28, 29, 30, 31, 32, 33, 34, 35, 36, 37, 38, 39, 40, 41, 42, 43, 44, 45, 46, 47, 48, 49, 50, 51, 52, 53, 54, 55, 56, 57, 58, 59, 60, 61, 62, 63, 64] [⟨960, some 3, 0, 0, 45, (.prod (.int .i64) (.int .i64))⟩] [0, 980, 960] [980, 940] 2013) = (cel1_step u v).bind (outA (cel1_St u) [.exit 2]) := by
  rintro ⟨q0, q2⟩ ⟨q1, q3⟩
  kernel_rfl
noncomputable def cel1_rd (b : Bool) (o1 : Option AV) (o2 : Option AV) (o3 : Option AV) (o4 : Option AV) (o5 : Option AV) (own : Own) : Option (ctb0_U × cel2_V) := zrT b <| zrO o1 fun za1 => zrA1 za1 fun zc2 => zrP 0 0 zc2 <| zrO o2 fun za3 => zrA1 za3 fun zc4 => zrNil zc4 <| zrO o3 fun za5 => zrA1 za5 fun zc6 => zrSl 960 0 (none) zc6 <| zrO o4 fun za7 => zrA1 za7 fun zc8 => zrI .i64 zc8 fun q0 => zrO o5 fun za9 => zrA1 za9 fun zc10 => zrI .i64 zc10 fun q1 => zrL own fun zq11 zw12 => zrKey 0 zq11 fun zk13 => zrC zk13 fun zl14 => zrL zl14 fun zc15 zr16 => zrD (.prod (.int .i64) (.list (.prod (.int .i64) (.int .i64)))) zc15 fun q2 => zrN zr16 <| zrL zw12 fun zq17 zw18 => zrKey 980 zq17 fun zk19 => zrX zk19 <| zrL zw18 fun zq20 zw21 => zrKey 960 zq20 fun zk22 => zrR true 45 (.prod (.int .i64) (.int .i64)) zk22 fun q3 => zrN zw21 <| some ((q0, q2), (q1, q3))
noncomputable def cel1_can (st : Stt) : Stt := canA [0, 6, 7, 8, 9, 10, 11, 12, 13, 14, 15, 16, 17, 18, 19, 20, 21, 22, 23, 24, 25, 26, 27, 28, 29, 30, 31, 32, 33, 34, 35, 36, 37, 38, 39, 40, 41, 42, 43, 44, 45, 46, 47, 48, 49, 50, 51, 52, 53, 54, 55, 56, 57, 58, 59, 60, 61, 62, 63, 64] [⟨960, some 3, 0, 0, 45, (.prod (.int .i64) (.int .i64))⟩] [0, 980, 960] [980, 940] 2013 st
noncomputable def cel1_cok (st : Stt) : Bool := canAok [0, 6, 7, 8, 9, 10, 11, 12, 13, 14, 15, 16, 17, 18, 19, 20, 21, 22, 23, 24, 25, 26, 27, 28, 29, 30, 31, 32, 33, 34, 35, 36, 37, 38, 39, 40, 41, 42, 43, 44, 45, 46, 47, 48, 49, 50, 51, 52, 53, 54, 55, 56, 57, 58, 59, 60, 61, 62, 63, 64] [⟨960, some 3, 0, 0, 45, (.prod (.int .i64) (.int .i64))⟩] [0, 980, 960] [980, 940] 2013 st
noncomputable def cel1_read (st : Stt) : Option (ctb0_U × cel2_V) := cel1_rd (cel1_cok st && (staysA [⟨960, some 3, 0, 0, 45, (.prod (.int .i64) (.int .i64))⟩] [0, 980, 960] st.own && juAll [0, 6, 7, 8, 9, 10, 11, 12, 13, 14, 15, 16, 17, 18, 19, 20, 21, 22, 23, 24, 25, 26, 27, 28, 29, 30, 31, 32, 33, 34, 35, 36, 37, 38, 39, 40, 41, 42, 43, 44, 45, 46, 47, 48, 49, 50, 51, 52, 53, 54, 55, 56, 57, 58, 59, 60, 61, 62, 63, 64] (cel1_can st).tm 65)) (cel1_can st).tm[1]? (cel1_can st).tm[2]? (cel1_can st).tm[3]? (cel1_can st).tm[4]? (cel1_can st).tm[5]? (cel1_can st).own
set_option maxRecDepth 100000 in
set_option maxHeartbeats 4000000 in
theorem cel1_rd_ok {b : Bool} {tm : List AV} {own : Own} {u : ctb0_U} {v : cel2_V} (hj : b = true → juAll [0, 6, 7, 8, 9, 10, 11, 12, 13, 14, 15, 16, 17, 18, 19, 20, 21, 22, 23, 24, 25, 26, 27, 28, 29, 30, 31, 32, 33, 34, 35, 36, 37, 38, 39, 40, 41, 42, 43, 44, 45, 46, 47, 48, 49, 50, 51, 52, 53, 54, 55, 56, 57, 58, 59, 60, 61, 62, 63, 64] tm 65 = true) (h : cel1_rd b tm[1]? tm[2]? tm[3]? tm[4]? tm[5]? own = some (u, v)) : b = true ∧ tm = (cel1_St u v).tm ∧ own = (cel1_St u v).own := by
  unfold cel1_rd at h
  obtain ⟨rfl, h0⟩ := zrT_some h
  obtain ⟨za1, e1, h1⟩ := zrO_some h0
  obtain ⟨zc2, rfl, h2⟩ := zrA1_some h1
  obtain ⟨rfl, h3⟩ := zrP_some h2
  obtain ⟨za3, e2, h4⟩ := zrO_some h3
  obtain ⟨zc4, rfl, h5⟩ := zrA1_some h4
  obtain ⟨rfl, h6⟩ := zrNil_some h5
  obtain ⟨za5, e3, h7⟩ := zrO_some h6
  obtain ⟨zc6, rfl, h8⟩ := zrA1_some h7
  obtain ⟨rfl, h9⟩ := zrSl_some h8
  obtain ⟨za7, e4, h10⟩ := zrO_some h9
  obtain ⟨zc8, rfl, h11⟩ := zrA1_some h10
  obtain ⟨q0, rfl, h12⟩ := zrI_some h11
  obtain ⟨za9, e5, h13⟩ := zrO_some h12
  obtain ⟨zc10, rfl, h14⟩ := zrA1_some h13
  obtain ⟨q1, rfl, h15⟩ := zrI_some h14
  obtain ⟨zq11, zw12, rfl, h16⟩ := zrL_some h15
  obtain ⟨zk13, rfl, h17⟩ := zrKey_some h16
  obtain ⟨zl14, rfl, h18⟩ := zrC_some h17
  obtain ⟨zc15, zr16, rfl, h19⟩ := zrL_some h18
  obtain ⟨q2, rfl, h20⟩ := zrD_some h19
  obtain ⟨rfl, h21⟩ := zrN_some h20
  obtain ⟨zq17, zw18, rfl, h22⟩ := zrL_some h21
  obtain ⟨zk19, rfl, h23⟩ := zrKey_some h22
  obtain ⟨rfl, h24⟩ := zrX_some h23
  obtain ⟨zq20, zw21, rfl, h25⟩ := zrL_some h24
  obtain ⟨zk22, rfl, h26⟩ := zrKey_some h25
  obtain ⟨q3, rfl, h27⟩ := zrR_some h26
  obtain ⟨rfl, h28⟩ := zrN_some h27
  have h := Option.some.inj h28
  have hu := congrArg Prod.fst h
  have hv := congrArg Prod.snd h
  dsimp only at hu hv
  subst hu
  subst hv
  exact ⟨rfl, (tm_fill (hj rfl) (Lv := [(1, .one (.p 0 0)), (2, .one (.v false (Value.slice none (0 : Nat) (0 : Nat)))), (3, .one (.s false 960 0 (none))), (4, .one (.v false (.int .i64 q0))), (5, .one (.v false (.int .i64 q1)))]) (by kernel_rfl) ⟨e1, e2, e3, e4, e5, trivial⟩).trans (by kernel_rfl), rfl⟩
theorem cel1_read_ok (st : Stt) (u : ctb0_U) (v : cel2_V) (h : cel1_read st = some (u, v)) : cel1_cok st = true ∧ staysA [⟨960, some 3, 0, 0, 45, (.prod (.int .i64) (.int .i64))⟩] [0, 980, 960] st.own = true ∧ cel1_can st = cel1_St u v := by
  obtain ⟨h1, h2, h3⟩ := cel1_rd_ok (fun hb => by rw [Bool.and_eq_true, Bool.and_eq_true] at hb; exact hb.2.2) h
  rw [Bool.and_eq_true, Bool.and_eq_true] at h1
  refine ⟨h1.1, h1.2.1, ?_⟩
  have e : cel1_can st = ⟨(cel1_can st).tm, (cel1_can st).own, 2013⟩ := by kernel_rfl
  rw [e, h2, h3]
  rfl
noncomputable def cel1_cond (u : ctb0_U) (v : cel2_V) : Bool := runC (cel1_step u) v
noncomputable def cel1_g (u : ctb0_U) (v : cel2_V) : Nat × cel2_V := runG (cel1_step u) v
theorem cel1_hg : ∀ (u : ctb0_U) (v : cel2_V), cel1_cond u v = true → loopN (cel1_step u) ((fun u v => runF (cel1_step u) v) u v) v = some (cel1_g u v) := by
  exact fun u v h => run_hg h
noncomputable def cel1_m (st : Stt) : Option (Tr (Ex × Stt)) := sumM cel1_read cel1_cond cel1_St cel1_g [(0, .exit 2)] st
noncomputable def rgJ_L52 : FuncId → Loops := addL 35 [0, 1, 0, 0, 1, 0, 0, 1, 0, 1, 1, 1] cel1_m rgJ_L51
set_option maxRecDepth 100000 in
set_option maxHeartbeats 4000000 in
theorem rgJ_L52_ok : LoopsOK Try.prog rgJ_L52 :=
  loop_sumF (body := (bodyOf Try.prog 35)) (c := (loopOf (bodyOf Try.prog 35) [1, 1, 1, 0, 1, 0, 0, 1, 0, 0, 1, 0])) (kinds := [.exit 2]) (allow := [(0, .exit 2)]) (St := cel1_St) (step := cel1_step) (W := [0, 6, 7, 8, 9, 10, 11, 12, 13, 14, 15, 16, 17, 18, 19, 20, 21, 22, 23, 24, 25, 26, 27, 28, 29, 30, 31, 32, 33, 34, 35, 36, 37, 38, 39, 40, 41, 42, 43, 44, 45, 46, 47, 48, 49, 50, 51, 52, 53, 54, 55, 56, 57, 58, 59, 60, 61, 62, 63, 64]) (As := [⟨960, some 3, 0, 0, 45, (.prod (.int .i64) (.int .i64))⟩]) (ks := [0, 980, 960]) (dd := [980, 940]) (nx := 2013) (n := 100000) (g := cel1_g) (cond := cel1_cond) (fuel := (fun u v => runF (cel1_step u) v)) (read := cel1_read) (by kernel_rfl) (moH_S57_ok) (rgJ_L51_ok) 7 ⟨Try.f35, by kernel_rfl, by kernel_rfl⟩ (by kernel_rfl) (by kernel_rfl) (by kernel_rfl) cel1_step_eq cel1_hg cel1_read_ok
noncomputable def cel0_St (u : gvb_U) (v : cel2_V) : Stt := ⟨[.one .junk, .one (.p 0 0), .one (.v false (Value.slice none (0 : Nat) (0 : Nat))), .one (.s false 980 0 (none)), .one (.v false (.int .i64 v.1)), .one .junk, .one .junk, .one .junk, .one .junk, .one .junk, .one .junk, .one .junk, .one .junk, .one .junk, .one .junk, .one .junk, .one .junk, .one .junk, .one .junk, .one .junk, .one .junk, .one .junk, .one .junk, .one .junk, .one .junk, .one .junk, .one .junk, .one .junk, .one .junk, .one .junk, .one .junk, .one .junk, .one .junk, .one .junk, .one .junk, .one .junk, .one .junk, .one .junk, .one .junk, .one .junk, .one .junk, .one .junk, .one .junk, .one .junk, .one .junk, .one .junk, .one .junk, .one .junk, .one .junk, .one .junk, .one .junk, .one .junk, .one .junk, .one .junk, .one .junk, .one .junk, .one .junk, .one .junk, .one .junk, .one .junk, .one .junk, .one .junk, .one .junk, .one .junk, .one .junk], [(0, .cells [.d false false (.prod (.int .i64) (.list (.prod (.int .i64) (.int .i64)))) u]), (980, .row true false false 45 (.prod (.int .i64) (.int .i64)) v.2)], 1007⟩
noncomputable def cel0_step (u : gvb_U) (v : cel2_V) : Tr (cel2_V ⊕ (Nat × cel2_V)) :=
  match u, v with
  | q1, (q0, q2) => .br (decide (q0 < (↑(List.length q1) : Int))) (.br (cel1_cond (q0, q1) ((0 : Int), q2)) (.br (Nat.beq (Prod.fst (cel1_g (q0, q1) ((0 : Int), q2))) (0 : Nat)) (.ret (.inl (IntKind.wrap .i64 (q0 + (1 : Int)), Prod.snd (Prod.snd (cel1_g (q0, q1) ((0 : Int), q2)))))) (.bad 902)) (.bad 901)) (.ret (.inr (0, (q0, q2))))
set_option maxRecDepth 100000 in
set_option maxHeartbeats 4000000 in
theorem cel0_step_eq : ∀ (u : gvb_U) (v : cel2_V), (evalC Try.prog (evalB Try.prog moH_S57 (opens []) rgJ_L52 7).1 (evalB Try.prog moH_S57 (opens []) rgJ_L52 7).2 (opens []) (rgJ_L52 35) 100000 (0 :: [0, 1, 0, 1, 1, 1]) (loopOf (bodyOf Try.prog 35) [1, 1, 1, 0, 1, 0]) (cel0_St u v) []).bind (finF [0, 5, 6, 7, 8, 9, 10, 11, 12, 13, 14, 15, 16, 17, 18, 19, 20, 21, 22, 23, 24, 25, 26, 27, 28, 29, 30, 31, 32, 33, 34, 35, 36, 37, 38, 39, 40, 41, 42, 43, 44, 45, 46, 47, 48, 49, 50, 51, 52, 53, 54, 55, 56, 57, 58, 59, 60, 61, 62, 63, 64] [⟨980, some 3, 0, 0, 45, (.prod (.int .i64) (.int .i64))⟩] [0, 980] [960] 1007) = (cel0_step u v).bind (outA (cel0_St u) [.exit 0]) := by
  rintro q1 ⟨q0, q2⟩
  kernel_rfl
noncomputable def cel0_rd (b : Bool) (o1 : Option AV) (o2 : Option AV) (o3 : Option AV) (o4 : Option AV) (own : Own) : Option (gvb_U × cel2_V) := zrT b <| zrO o1 fun za1 => zrA1 za1 fun zc2 => zrP 0 0 zc2 <| zrO o2 fun za3 => zrA1 za3 fun zc4 => zrNil zc4 <| zrO o3 fun za5 => zrA1 za5 fun zc6 => zrSl 980 0 (none) zc6 <| zrO o4 fun za7 => zrA1 za7 fun zc8 => zrI .i64 zc8 fun q0 => zrL own fun zq9 zw10 => zrKey 0 zq9 fun zk11 => zrC zk11 fun zl12 => zrL zl12 fun zc13 zr14 => zrD (.prod (.int .i64) (.list (.prod (.int .i64) (.int .i64)))) zc13 fun q1 => zrN zr14 <| zrL zw10 fun zq15 zw16 => zrKey 980 zq15 fun zk17 => zrR true 45 (.prod (.int .i64) (.int .i64)) zk17 fun q2 => zrN zw16 <| some (q1, (q0, q2))
noncomputable def cel0_can (st : Stt) : Stt := canA [0, 5, 6, 7, 8, 9, 10, 11, 12, 13, 14, 15, 16, 17, 18, 19, 20, 21, 22, 23, 24, 25, 26, 27, 28, 29, 30, 31, 32, 33, 34, 35, 36, 37, 38, 39, 40, 41, 42, 43, 44, 45, 46, 47, 48, 49, 50, 51, 52, 53, 54, 55, 56, 57, 58, 59, 60, 61, 62, 63, 64] [⟨980, some 3, 0, 0, 45, (.prod (.int .i64) (.int .i64))⟩] [0, 980] [960] 1007 st
noncomputable def cel0_cok (st : Stt) : Bool := canAok [0, 5, 6, 7, 8, 9, 10, 11, 12, 13, 14, 15, 16, 17, 18, 19, 20, 21, 22, 23, 24, 25, 26, 27, 28, 29, 30, 31, 32, 33, 34, 35, 36, 37, 38, 39, 40, 41, 42, 43, 44, 45, 46, 47, 48, 49, 50, 51, 52, 53, 54, 55, 56, 57, 58, 59, 60, 61, 62, 63, 64] [⟨980, some 3, 0, 0, 45, (.prod (.int .i64) (.int .i64))⟩] [0, 980] [960] 1007 st
noncomputable def cel0_read (st : Stt) : Option (gvb_U × cel2_V) := cel0_rd (cel0_cok st && (staysA [⟨980, some 3, 0, 0, 45, (.prod (.int .i64) (.int .i64))⟩] [0, 980] st.own && juAll [0, 5, 6, 7, 8, 9, 10, 11, 12, 13, 14, 15, 16, 17, 18, 19, 20, 21, 22, 23, 24, 25, 26, 27, 28, 29, 30, 31, 32, 33, 34, 35, 36, 37, 38, 39, 40, 41, 42, 43, 44, 45, 46, 47, 48, 49, 50, 51, 52, 53, 54, 55, 56, 57, 58, 59, 60, 61, 62, 63, 64] (cel0_can st).tm 65)) (cel0_can st).tm[1]? (cel0_can st).tm[2]? (cel0_can st).tm[3]? (cel0_can st).tm[4]? (cel0_can st).own
set_option maxRecDepth 100000 in
set_option maxHeartbeats 4000000 in
theorem cel0_rd_ok {b : Bool} {tm : List AV} {own : Own} {u : gvb_U} {v : cel2_V} (hj : b = true → juAll [0, 5, 6, 7, 8, 9, 10, 11, 12, 13, 14, 15, 16, 17, 18, 19, 20, 21, 22, 23, 24, 25, 26, 27, 28, 29, 30, 31, 32, 33, 34, 35, 36, 37, 38, 39, 40, 41, 42, 43, 44, 45, 46, 47, 48, 49, 50, 51, 52, 53, 54, 55, 56, 57, 58, 59, 60, 61, 62, 63, 64] tm 65 = true) (h : cel0_rd b tm[1]? tm[2]? tm[3]? tm[4]? own = some (u, v)) : b = true ∧ tm = (cel0_St u v).tm ∧ own = (cel0_St u v).own := by
  unfold cel0_rd at h
  obtain ⟨rfl, h0⟩ := zrT_some h
  obtain ⟨za1, e1, h1⟩ := zrO_some h0
  obtain ⟨zc2, rfl, h2⟩ := zrA1_some h1
  obtain ⟨rfl, h3⟩ := zrP_some h2
  obtain ⟨za3, e2, h4⟩ := zrO_some h3
  obtain ⟨zc4, rfl, h5⟩ := zrA1_some h4
  obtain ⟨rfl, h6⟩ := zrNil_some h5
  obtain ⟨za5, e3, h7⟩ := zrO_some h6
  obtain ⟨zc6, rfl, h8⟩ := zrA1_some h7
  obtain ⟨rfl, h9⟩ := zrSl_some h8
  obtain ⟨za7, e4, h10⟩ := zrO_some h9
  obtain ⟨zc8, rfl, h11⟩ := zrA1_some h10
  obtain ⟨q0, rfl, h12⟩ := zrI_some h11
  obtain ⟨zq9, zw10, rfl, h13⟩ := zrL_some h12
  obtain ⟨zk11, rfl, h14⟩ := zrKey_some h13
  obtain ⟨zl12, rfl, h15⟩ := zrC_some h14
  obtain ⟨zc13, zr14, rfl, h16⟩ := zrL_some h15
  obtain ⟨q1, rfl, h17⟩ := zrD_some h16
  obtain ⟨rfl, h18⟩ := zrN_some h17
  obtain ⟨zq15, zw16, rfl, h19⟩ := zrL_some h18
  obtain ⟨zk17, rfl, h20⟩ := zrKey_some h19
  obtain ⟨q2, rfl, h21⟩ := zrR_some h20
  obtain ⟨rfl, h22⟩ := zrN_some h21
  have h := Option.some.inj h22
  have hu := congrArg Prod.fst h
  have hv := congrArg Prod.snd h
  dsimp only at hu hv
  subst hu
  subst hv
  exact ⟨rfl, (tm_fill (hj rfl) (Lv := [(1, .one (.p 0 0)), (2, .one (.v false (Value.slice none (0 : Nat) (0 : Nat)))), (3, .one (.s false 980 0 (none))), (4, .one (.v false (.int .i64 q0)))]) (by kernel_rfl) ⟨e1, e2, e3, e4, trivial⟩).trans (by kernel_rfl), rfl⟩
theorem cel0_read_ok (st : Stt) (u : gvb_U) (v : cel2_V) (h : cel0_read st = some (u, v)) : cel0_cok st = true ∧ staysA [⟨980, some 3, 0, 0, 45, (.prod (.int .i64) (.int .i64))⟩] [0, 980] st.own = true ∧ cel0_can st = cel0_St u v := by
  obtain ⟨h1, h2, h3⟩ := cel0_rd_ok (fun hb => by rw [Bool.and_eq_true, Bool.and_eq_true] at hb; exact hb.2.2) h
  rw [Bool.and_eq_true, Bool.and_eq_true] at h1
  refine ⟨h1.1, h1.2.1, ?_⟩
  have e : cel0_can st = ⟨(cel0_can st).tm, (cel0_can st).own, 1007⟩ := by kernel_rfl
  rw [e, h2, h3]
  rfl
noncomputable def cel0_cond (u : gvb_U) (v : cel2_V) : Bool := runC (cel0_step u) v
noncomputable def cel0_g (u : gvb_U) (v : cel2_V) : Nat × cel2_V := runG (cel0_step u) v
theorem cel0_hg : ∀ (u : gvb_U) (v : cel2_V), cel0_cond u v = true → loopN (cel0_step u) ((fun u v => runF (cel0_step u) v) u v) v = some (cel0_g u v) := by
  exact fun u v h => run_hg h
noncomputable def cel0_m (st : Stt) : Option (Tr (Ex × Stt)) := sumM cel0_read cel0_cond cel0_St cel0_g [(0, .exit 0)] st
noncomputable def rgJ_L53 : FuncId → Loops := addL 35 [0, 1, 0, 1, 1, 1] cel0_m rgJ_L52
set_option maxRecDepth 100000 in
set_option maxHeartbeats 4000000 in
theorem rgJ_L53_ok : LoopsOK Try.prog rgJ_L53 :=
  loop_sumF (body := (bodyOf Try.prog 35)) (c := (loopOf (bodyOf Try.prog 35) [1, 1, 1, 0, 1, 0])) (kinds := [.exit 0]) (allow := [(0, .exit 0)]) (St := cel0_St) (step := cel0_step) (W := [0, 5, 6, 7, 8, 9, 10, 11, 12, 13, 14, 15, 16, 17, 18, 19, 20, 21, 22, 23, 24, 25, 26, 27, 28, 29, 30, 31, 32, 33, 34, 35, 36, 37, 38, 39, 40, 41, 42, 43, 44, 45, 46, 47, 48, 49, 50, 51, 52, 53, 54, 55, 56, 57, 58, 59, 60, 61, 62, 63, 64]) (As := [⟨980, some 3, 0, 0, 45, (.prod (.int .i64) (.int .i64))⟩]) (ks := [0, 980]) (dd := [960]) (nx := 1007) (n := 100000) (g := cel0_g) (cond := cel0_cond) (fuel := (fun u v => runF (cel0_step u) v)) (read := cel0_read) (by kernel_rfl) (moH_S57_ok) (rgJ_L52_ok) 7 ⟨Try.f35, by kernel_rfl, by kernel_rfl⟩ (by kernel_rfl) (by kernel_rfl) (by kernel_rfl) cel0_step_eq cel0_hg cel0_read_ok
theorem cel2_run {R : Rg} {i k : Nat} (a : List (Int × Int)) (hi : i < R.length) (hk : k < R[i].2.length) (hq : -4096 ≤ R[i].2[k].1 ∧ R[i].2[k].1 < R[i].2[k].2 ∧ R[i].2[k].2 ≤ 4096) (hn : a.length + (clR R[i].1 R[i].2[k]).length ≤ 50000) : cel2_cond ((i : Int), (k : Int), R) (R[i].2[k].1, a) = true ∧ cel2_g ((i : Int), (k : Int), R) (R[i].2[k].1, a) = (0, (R[i].2[k].2, a ++ clR R[i].1 R[i].2[k])) := by
  rw [clR_len] at hn
  unfold clR
  have hi0 := lt_t hi
  have hk0 := lt_t hk
  obtain ⟨N, hN⟩ : ∃ N : Nat, (N : Int) = R[i].2[k].2 - R[i].2[k].1 := ⟨(R[i].2[k].2 - R[i].2[k].1).toNat, by omega⟩
  rw [show (R[i].2[k].2 - R[i].2[k].1).toNat = N by omega] at hn ⊢
  have R1 := run_steps (step := cel2_step ((i : Int), (k : Int), R)) (St := fun j => (R[i].2[k].1 + (j : Int), a ++ (List.range j).map fun i_1 : Nat => (R[i].2[k].1 + (i_1 : Int), R[i].1))) (n := N) (t := (0, (R[i].2[k].2, a ++ (List.range N).map fun i_1 : Nat => (R[i].2[k].1 + (i_1 : Int), R[i].1)))) (by
    have e : R[i].2[k].1 + (N : Int) = R[i].2[k].2 := by omega
    have d : decide (R[i].2[k].2 < R[i].2[k].2) = false := decide_eq_false (by omega)
    simp only [cel2_step, Tr.val, nn_t, hi0, hk0, el_g hi, el_r hk, e, d, Bool.and_self, cond_true, cond_false]) N 0 (Nat.zero_add _) (fun j _ hj => by
    have d : decide (R[i].2[k].1 + (j : Int) < R[i].2[k].2) = true := decide_eq_true (by omega)
    have w : IntKind.wrap .i64 (R[i].2[k].1 + (j : Int) + (1 : Int)) = R[i].2[k].1 + ((j + 1 : Nat) : Int) := by rw [wid (by omega) (by omega)]; omega
    have hl : (a ++ (List.range j).map fun i_1 : Nat => (R[i].2[k].1 + (i_1 : Int), R[i].1)).length = a.length + j := by simp
    obtain ⟨r1, r2⟩ := room16 (n := a.length + j + 1) (by omega)
    have et : (List.range (j + 1)).map (fun i_1 : Nat => (R[i].2[k].1 + (i_1 : Int), R[i].1)) = (List.range j).map (fun i_1 : Nat => (R[i].2[k].1 + (i_1 : Int), R[i].1)) ++ [(R[i].2[k].1 + (j : Int), R[i].1)] := by rw [List.range_succ, List.map_append]; rfl
    rw [et, ← List.append_assoc]
    simp only [cel2_step, Tr.val, nn_t, hi0, hk0, el_g hi, el_r hk, d, w, hl, r1, r2, Bool.and_self, cond_true])
  have e0 : R[i].2[k].1 + ((0 : Nat) : Int) = R[i].2[k].1 := by omega
  have e1 : a ++ (List.range 0).map (fun i_1 : Nat => (R[i].2[k].1 + (i_1 : Int), R[i].1)) = a := by simp
  simp only [e0, e1] at R1
  exact R1
theorem cel1_run {R : Rg} {i : Nat} (a : List (Int × Int)) (h : valG R) (hi : i < R.length) (hn : a.length + (clW R[i]).length ≤ 50000) : cel1_cond ((i : Int), R) (0, a) = true ∧ cel1_g ((i : Int), R) (0, a) = (0, ((R[i].2.length : Int), a ++ clW R[i])) := by
  have g := Ng.rows h _ (List.getElem_mem hi)
  have hl := row_len g
  have hi0 := lt_t hi
  have hb := row_in g.2.2
  have R1 := run_steps (step := cel1_step ((i : Int), R)) (St := fun j => ((j : Int), a ++ (R[i].2.take j).flatMap (clR R[i].1))) (n := R[i].2.length) (t := (0, ((R[i].2.length : Int), a ++ clW R[i]))) (by
    simp only [cel1_step, Tr.val, nn_t, hi0, el_g hi, Int.lt_irrefl, decide_false, cond_false, cond_true, Bool.and_self, List.take_length]
    rfl) R[i].2.length 0 (Nat.zero_add _) (fun j _ hj => by
    have l1 : ((R[i].2.take j).flatMap (clR R[i].1)).length + (clR R[i].1 R[i].2[j]).length ≤ (clW R[i]).length := fm_len1 (f := clR R[i].1) hj
    obtain ⟨v1, v2⟩ := cel2_run (a ++ (R[i].2.take j).flatMap (clR R[i].1)) hi hj (hb _ (List.getElem_mem hj)) (by rw [List.length_append]; omega)
    rw [fm_take hj, ← List.append_assoc]
    simp only [cel1_step, Tr.val, nn_t, hi0, el_g hi, lt_t hj, el_r hj, v1, v2, Nat.beq, wi1 hj (show (R[i].2.length : Int) ≤ 9223372036854775806 by omega), Bool.and_self, cond_true])
  have e1 : a ++ (R[i].2.take 0).flatMap (clR R[i].1) = a := by simp
  simp only [e1] at R1
  exact R1
theorem cel0_run {R : Rg} (h : valG R) (hn : (celG R).length ≤ 50000) : cel0_cond R (0, []) = true ∧ cel0_g R (0, []) = (0, ((R.length : Int), celG R)) := by
  have hr := ng_len h (by omega)
  have R1 := run_steps (step := cel0_step R) (St := fun j => ((j : Int), celG (R.take j))) (n := R.length) (t := (0, ((R.length : Int), celG R))) (by
    simp only [cel0_step, Tr.val, Int.lt_irrefl, decide_false, cond_false, List.take_length]) R.length 0 (Nat.zero_add _) (fun j _ hj => by
    have l1 : (celG (R.take j)).length + (clW R[j]).length ≤ (celG R).length := fm_len1 (f := clW) hj
    obtain ⟨v1, v2⟩ := cel1_run (celG (R.take j)) h hj (by omega)
    have et : celG (R.take (j + 1)) = celG (R.take j) ++ clW R[j] := fm_take hj
    rw [et]
    simp only [cel0_step, Tr.val, lt_t hj, v1, v2, Nat.beq, wi1 hj (show (R.length : Int) ≤ 9223372036854775806 by omega), cond_true])
  exact R1
set_option maxRecDepth 100000 in
theorem celc_tree (R : (Ty.list (.prod (.int .i64) (.list (.prod (.int .i64) (.int .i64))))).den) : evalF Try.prog moH_S57 (opens []) rgJ_L53 9 35 [.ag [.d false false (.prod (.int .i64) (.list (.prod (.int .i64) (.int .i64)))) R]] = .br (((szG R) && (bif !valGB R then true else ((cel0_cond R ((0 : Int), [])) && (Nat.beq (Prod.fst (cel0_g R ((0 : Int), []))) (0 : Nat)))))) (.ret (.one (.d false false (.prod (.int .i64) (.int .i64)) (bif !valGB R then [] else Prod.snd (Prod.snd (cel0_g R ((0 : Int), []))))))) (.bad 116) := by kernel_rfl
theorem celc_val (R : (Ty.list (.prod (.int .i64) (.list (.prod (.int .i64) (.int .i64))))).den) (hc : (szG R && decide (cntV R ≤ 9000)) = true) : (.br (((szG R) && (bif !valGB R then true else ((cel0_cond R ((0 : Int), [])) && (Nat.beq (Prod.fst (cel0_g R ((0 : Int), []))) (0 : Nat)))))) (.ret (.one (.d false false (.prod (.int .i64) (.int .i64)) (bif !valGB R then [] else Prod.snd (Prod.snd (cel0_g R ((0 : Int), []))))))) (.bad 116) : Tr AV).val = some (.one (.d false false (.prod (.int .i64) (.int .i64)) (celV R))) := by
  obtain ⟨K, rfl⟩ : ∃ K : Rg, K = R := ⟨R, rfl⟩
  rw [Bool.and_eq_true] at hc
  have hs : szG K = true := hc.1
  have hcn : cntV K ≤ 9000 := of_decide_eq_true hc.2
  unfold celV
  show cond _ _ _ = _
  cases hv : valGB K
  · simp only [hs, Bool.not_false, Bool.and_self, cond_true, cond_false, Tr.val]
  · have h := valGB_iff.1 hv
    have e : cntV K = cntG K := by unfold cntV; rw [hv]; rfl
    have hl := celG_len h
    obtain ⟨v1, v2⟩ := cel0_run h (by omega)
    simp only [hs, v1, v2, Nat.beq, Bool.not_true, Bool.and_self, cond_true, cond_false, Tr.val]
noncomputable def celc_g : List AV → Option (Tr AV)
  | [.ag [.d _ _ (.prod (.int .i64) (.list (.prod (.int .i64) (.int .i64)))) R]] => some (.br (szG R && decide (cntV R ≤ 9000)) (.ret (.one (.d false false (.prod (.int .i64) (.int .i64)) (celV R)))) (.bad 900))
  | _ => none
set_option maxHeartbeats 4000000 in
theorem celc_ok : FunOK Try.prog 35 celc_g := by
  refine fun_ok (by kernel_rfl) (moH_S57_ok) (rgJ_L53_ok) 9 (On := (opens [])) (fun args t h => ?_)
  unfold celc_g at h
  split at h
  · rename_i _ _ R
    simp only [Option.some.injEq] at h
    subst h
    refine ⟨[.ag [.d false false (.prod (.int .i64) (.list (.prod (.int .i64) (.int .i64)))) R]], rfl, fun fr w us h => h, fun r hr => ?_⟩
    obtain ⟨hc, hr⟩ := br_bad hr
    simp only [Tr.val, Option.some.injEq] at hr
    subst hr
    rw [celc_tree]
    exact celc_val R hc
  · cases h
noncomputable def rgJ_S54 : Sums := addS 35 celc_g moH_S57
theorem rgJ_S54_ok : SumOK Try.prog rgJ_S54 := addS_ok (celc_ok) (moH_S57_ok)
end Go.Proofs.Ytacgchandefjgaa
