/-
  Texts in one: MoA, MoB.
-/
import Derived.Test.YtacgchandefjgaaProg
import Derived.Test.YtacgchandefjgaaFvX
import Derived.Test.YtacgchandefjgaaFvZ
import Derived.Test.YtacgchandefjgaaAut
import Derived.Test.YtacgchandefjgaaRd
import Derived.Test.YtacgchandefjgaaPl
import Derived.Test.YtacgchandefjgaaScn
import Derived.Test.YtacgchandefjgaaMor
import Derived.Test.YtacgchandefjgaaRgB
import Derived.Test.YtacgchandefjgaaRgC
import Derived.Test.YtacgchandefjgaaRgD
namespace Go.Proofs.Ytacgchandefjgaa
open Go
abbrev mov_U : Type := Int × Int × (Ty.list (.prod (.int .i64) (.int .i64))).den × Int
abbrev mov_V : Type := Int × (Ty.list (.prod (.int .i64) (.int .i64))).den
noncomputable def mov_St (u : mov_U) (v : mov_V) : Stt := ⟨[.one .junk, .one (.v false (.int .i64 u.1)), .one (.v false (.int .i64 u.2.1)), .one .junk, .one .junk, .one .junk, .one (.v false (Value.slice none (0 : Nat) (0 : Nat))), .one (.s false 980 0 (none)), .one .junk, .one .junk, .one (.d false false (.prod (.int .i64) (.int .i64)) u.2.2.1), .one (.v false (.int .i64 u.2.2.2)), .one (.v false (.int .i64 v.1)), .one .junk, .one .junk, .one .junk, .one .junk, .one .junk, .one .junk, .one .junk, .one .junk, .one .junk, .one .junk, .one .junk, .one .junk, .one .junk, .one .junk, .one .junk, .one .junk, .one .junk, .one .junk, .one .junk, .one .junk, .one .junk, .one .junk, .one .junk, .one .junk, .one .junk, .one .junk], [(980, .row true false false 69 (.prod (.int .i64) (.int .i64)) v.2)], 1005⟩
noncomputable def mov_step (u : mov_U) (v : mov_V) : Tr (mov_V ⊕ (Nat × mov_V)) :=
  match u, v with
  | (q0, q1, q2, q3), (q4, q5) => .br (decide (q4 < q3)) (.br (decide ((0 : Int) ≤ q4) && decide (q4 < (↑(List.length q2) : Int))) (.br (decide (IntKind.wrap .i64 (Prod.fst (el_ii q2 q4) + q0) < IntKind.wrap .i64 (Prod.snd (el_ii q2 q4) + q1))) (.br (decide ((List.length q5 + (1 : Nat)) * (16 : Nat) ≤ maxNew) && decide (List.length q5 + (1 : Nat) ≤ maxLen)) (.ret (.inl (IntKind.wrap .i64 (q4 + (1 : Int)), q5 ++ [(IntKind.wrap .i64 (Prod.fst (el_ii q2 q4) + q0), IntKind.wrap .i64 (Prod.snd (el_ii q2 q4) + q1))]))) (.bad 71)) (.ret (.inl (IntKind.wrap .i64 (q4 + (1 : Int)), q5)))) (.bad 29)) (.ret (.inr (0, (q4, q5))))
set_option maxRecDepth 100000 in
set_option maxHeartbeats 4000000 in
theorem mov_step_eq : ∀ (u : mov_U) (v : mov_V), (evalC Try.prog (evalB Try.prog rgD_S58 (opens []) rgD_L57 7).1 (evalB Try.prog rgD_S58 (opens []) rgD_L57 7).2 (opens []) (rgD_L57 108) 100000 (0 :: [0, 1, 0, 1, 1]) (loopOf (bodyOf Try.prog 108) [1, 1, 0, 1, 0]) (mov_St u v) []).bind (finF [0, 3, 4, 5, 8, 9, 13, 14, 15, 16, 17, 18, 19, 20, 21, 22, 23, 24, 25, 26, 27, 28, 29, 30, 31, 32, 33, 34, 35, 36, 37, 38] [⟨980, some 7, 0, 0, 69, (.prod (.int .i64) (.int .i64))⟩] [980] [1030] 1005) = (mov_step u v).bind (outA (mov_St u) [.exit 0]) := by
  rintro ⟨q0, q1, q2, q3⟩ ⟨q4, q5⟩
  kernel_rfl
noncomputable def mov_rd (b : Bool) (o1 : Option AV) (o2 : Option AV) (o6 : Option AV) (o7 : Option AV) (o10 : Option AV) (o11 : Option AV) (o12 : Option AV) (own : Own) : Option (mov_U × mov_V) := zrT b <| zrO o1 fun za1 => zrA1 za1 fun zc2 => zrI .i64 zc2 fun q0 => zrO o2 fun za3 => zrA1 za3 fun zc4 => zrI .i64 zc4 fun q1 => zrO o6 fun za5 => zrA1 za5 fun zc6 => zrNil zc6 <| zrO o7 fun za7 => zrA1 za7 fun zc8 => zrSl 980 0 (none) zc8 <| zrO o10 fun za9 => zrA1 za9 fun zc10 => zrD (.prod (.int .i64) (.int .i64)) zc10 fun q2 => zrO o11 fun za11 => zrA1 za11 fun zc12 => zrI .i64 zc12 fun q3 => zrO o12 fun za13 => zrA1 za13 fun zc14 => zrI .i64 zc14 fun q4 => zrL own fun zq15 zw16 => zrKey 980 zq15 fun zk17 => zrR true 69 (.prod (.int .i64) (.int .i64)) zk17 fun q5 => zrN zw16 <| some ((q0, q1, q2, q3), (q4, q5))
noncomputable def mov_can (st : Stt) : Stt := canA [0, 3, 4, 5, 8, 9, 13, 14, 15, 16, 17, 18, 19, 20, 21, 22, 23, 24, 25, 26, 27, 28, 29, 30, 31, 32, 33, 34, 35, 36, 37, 38] [⟨980, some 7, 0, 0, 69, (.prod (.int .i64) (.int .i64))⟩] [980] [1030] 1005 st
noncomputable def mov_cok (st : Stt) : Bool := canAok [0, 3, 4, 5, 8, 9, 13, 14, 15, 16, 17, 18, 19, 20, 21, 22, 23, 24, 25, 26, 27, 28, 29, 30, 31, 32, 33, 34, 35, 36, 37, 38] [⟨980, some 7, 0, 0, 69, (.prod (.int .i64) (.int .i64))⟩] [980] [1030] 1005 st
noncomputable def mov_read (st : Stt) : Option (mov_U × mov_V) := mov_rd (mov_cok st && (staysA [⟨980, some 7, 0, 0, 69, (.prod (.int .i64) (.int .i64))⟩] [980] st.own && juAll [0, 3, 4, 5, 8, 9, 13, 14, 15, 16, 17, 18, 19, 20, 21, 22, 23, 24, 25, 26, 27, 28, 29, 30, 31, 32, 33, 34, 35, 36, 37, 38] (mov_can st).tm 39)) (mov_can st).tm[1]? (mov_can st).tm[2]? (mov_can st).tm[6]? (mov_can st).tm[7]? (mov_can st).tm[10]? (mov_can st).tm[11]? (mov_can st).tm[12]? (mov_can st).own
set_option maxRecDepth 100000 in
set_option maxHeartbeats 4000000 in
theorem mov_rd_ok {b : Bool} {tm : List AV} {own : Own} {u : mov_U} {v : mov_V} (hj : b = true → juAll [0, 3, 4, 5, 8, 9, 13, 14, 15, 16, 17, 18, 19, 20, 21, 22, 23, 24, 25, 26, 27, 28, 29, 30, 31, 32, 33, 34, 35, 36, 37, 38] tm 39 = true) (h : mov_rd b tm[1]? tm[2]? tm[6]? tm[7]? tm[10]? tm[11]? tm[12]? own = some (u, v)) : b = true ∧ tm = (mov_St u v).tm ∧ own = (mov_St u v).own := by
  unfold mov_rd at h
  obtain ⟨rfl, h0⟩ := zrT_some h
  obtain ⟨za1, e1, h1⟩ := zrO_some h0
  obtain ⟨zc2, rfl, h2⟩ := zrA1_some h1
  obtain ⟨q0, rfl, h3⟩ := zrI_some h2
  obtain ⟨za3, e2, h4⟩ := zrO_some h3
  obtain ⟨zc4, rfl, h5⟩ := zrA1_some h4
  obtain ⟨q1, rfl, h6⟩ := zrI_some h5
  obtain ⟨za5, e6, h7⟩ := zrO_some h6
  obtain ⟨zc6, rfl, h8⟩ := zrA1_some h7
  obtain ⟨rfl, h9⟩ := zrNil_some h8
  obtain ⟨za7, e7, h10⟩ := zrO_some h9
  obtain ⟨zc8, rfl, h11⟩ := zrA1_some h10
  obtain ⟨rfl, h12⟩ := zrSl_some h11
  obtain ⟨za9, e10, h13⟩ := zrO_some h12
  obtain ⟨zc10, rfl, h14⟩ := zrA1_some h13
  obtain ⟨q2, rfl, h15⟩ := zrD_some h14
  obtain ⟨za11, e11, h16⟩ := zrO_some h15
  obtain ⟨zc12, rfl, h17⟩ := zrA1_some h16
  obtain ⟨q3, rfl, h18⟩ := zrI_some h17
  obtain ⟨za13, e12, h19⟩ := zrO_some h18
  obtain ⟨zc14, rfl, h20⟩ := zrA1_some h19
  obtain ⟨q4, rfl, h21⟩ := zrI_some h20
  obtain ⟨zq15, zw16, rfl, h22⟩ := zrL_some h21
  obtain ⟨zk17, rfl, h23⟩ := zrKey_some h22
  obtain ⟨q5, rfl, h24⟩ := zrR_some h23
  obtain ⟨rfl, h25⟩ := zrN_some h24
  have h := Option.some.inj h25
  have hu := congrArg Prod.fst h
  have hv := congrArg Prod.snd h
  dsimp only at hu hv
  subst hu
  subst hv
  exact ⟨rfl, (tm_fill (hj rfl) (Lv := [(1, .one (.v false (.int .i64 q0))), (2, .one (.v false (.int .i64 q1))), (6, .one (.v false (Value.slice none (0 : Nat) (0 : Nat)))), (7, .one (.s false 980 0 (none))), (10, .one (.d false false (.prod (.int .i64) (.int .i64)) q2)), (11, .one (.v false (.int .i64 q3))), (12, .one (.v false (.int .i64 q4)))]) (by kernel_rfl) ⟨e1, e2, e6, e7, e10, e11, e12, trivial⟩).trans (by kernel_rfl), rfl⟩
theorem mov_read_ok (st : Stt) (u : mov_U) (v : mov_V) (h : mov_read st = some (u, v)) : mov_cok st = true ∧ staysA [⟨980, some 7, 0, 0, 69, (.prod (.int .i64) (.int .i64))⟩] [980] st.own = true ∧ mov_can st = mov_St u v := by
  obtain ⟨h1, h2, h3⟩ := mov_rd_ok (fun hb => by rw [Bool.and_eq_true, Bool.and_eq_true] at hb; exact hb.2.2) h
  rw [Bool.and_eq_true, Bool.and_eq_true] at h1
  refine ⟨h1.1, h1.2.1, ?_⟩
  have e : mov_can st = ⟨(mov_can st).tm, (mov_can st).own, 1005⟩ := by kernel_rfl
  rw [e, h2, h3]
  rfl
noncomputable def mov_cond (u : mov_U) (v : mov_V) : Bool := runC (mov_step u) v
noncomputable def mov_g (u : mov_U) (v : mov_V) : Nat × mov_V := runG (mov_step u) v
theorem mov_hg : ∀ (u : mov_U) (v : mov_V), mov_cond u v = true → loopN (mov_step u) ((fun u v => runF (mov_step u) v) u v) v = some (mov_g u v) := by
  exact fun u v h => run_hg h
noncomputable def mov_m (st : Stt) : Option (Tr (Ex × Stt)) := sumM mov_read mov_cond mov_St mov_g [(0, .exit 0)] st
noncomputable def moA_L51 : FuncId → Loops := addL 108 [0, 1, 0, 1, 1] mov_m rgD_L57
set_option maxRecDepth 100000 in
set_option maxHeartbeats 4000000 in
theorem moA_L51_ok : LoopsOK Try.prog moA_L51 :=
  loop_sumF (body := (bodyOf Try.prog 108)) (c := (loopOf (bodyOf Try.prog 108) [1, 1, 0, 1, 0])) (kinds := [.exit 0]) (allow := [(0, .exit 0)]) (St := mov_St) (step := mov_step) (W := [0, 3, 4, 5, 8, 9, 13, 14, 15, 16, 17, 18, 19, 20, 21, 22, 23, 24, 25, 26, 27, 28, 29, 30, 31, 32, 33, 34, 35, 36, 37, 38]) (As := [⟨980, some 7, 0, 0, 69, (.prod (.int .i64) (.int .i64))⟩]) (ks := [980]) (dd := [1030]) (nx := 1005) (n := 100000) (g := mov_g) (cond := mov_cond) (fuel := (fun u v => runF (mov_step u) v)) (read := mov_read) (by kernel_rfl) (rgD_S58_ok) (rgD_L57_ok) 7 ⟨Try.f108, by kernel_rfl, by kernel_rfl⟩ (by kernel_rfl) (by kernel_rfl) (by kernel_rfl) mov_step_eq mov_hg mov_read_ok
noncomputable def mrg_St (u : inn_U) (v : mov_V) : Stt := ⟨[.one .junk, .one .junk, .one (.v false (Value.slice none (0 : Nat) (0 : Nat))), .one (.s false 980 0 (none)), .one .junk, .one .junk, .one .junk, .one (.d false false (.prod (.int .i64) (.int .i64)) u.1), .one (.v false (.int .i64 u.2)), .one (.v false (.int .i64 v.1)), .one .junk, .one .junk, .one .junk, .one .junk, .one .junk, .one .junk, .one .junk, .one .junk, .one .junk, .one .junk, .one .junk, .one .junk, .one .junk, .one .junk, .one .junk, .one .junk, .one .junk, .one .junk, .one .junk, .one .junk, .one .junk, .one .junk, .one .junk, .one .junk, .one .junk, .one .junk, .one .junk, .one .junk, .one .junk, .one .junk, .one .junk, .one .junk, .one .junk, .one .junk, .one .junk, .one .junk], [(980, .row true false false 69 (.prod (.int .i64) (.int .i64)) v.2)], 1005⟩
noncomputable def mrg_step (u : inn_U) (v : mov_V) : Tr (mov_V ⊕ (Nat × mov_V)) :=
  match u, v with
  | (q0, q1), (q2, q3) => .br (decide (q2 < q1)) (.br (decide ((0 : Int) ≤ q2) && decide (q2 < (↑(List.length q0) : Int))) (.br ((bif decide (IntKind.wrap .i64 ((↑(List.length q3) : Int) - (1 : Int)) ≥ (0 : Int)) then ((decide ((0 : Int) ≤ IntKind.wrap .i64 ((↑(List.length q3) : Int) - (1 : Int))) && decide (IntKind.wrap .i64 ((↑(List.length q3) : Int) - (1 : Int)) < (↑(List.length q3) : Int))) && (decide (Int.toNat (IntKind.wrap .i64 ((↑(List.length q3) : Int) - (1 : Int))) < List.length q3))) else true)) (.br (bif decide (IntKind.wrap .i64 ((↑(List.length q3) : Int) - (1 : Int)) ≥ (0 : Int)) then decide (Prod.fst (el_ii q0 q2) ≤ Prod.snd (el_ii q3 (IntKind.wrap .i64 ((↑(List.length q3) : Int) - (1 : Int))))) else false) (.br (decide ((0 : Int) ≤ IntKind.wrap .i64 ((↑(List.length q3) : Int) - (1 : Int))) && decide (IntKind.wrap .i64 ((↑(List.length q3) : Int) - (1 : Int)) < (↑(List.length q3) : Int))) (.br (decide (Int.toNat (IntKind.wrap .i64 ((↑(List.length q3) : Int) - (1 : Int))) < List.length q3)) (.br (decide ((0 : Int) ≤ IntKind.wrap .i64 ((↑(List.length q3) : Int) - (1 : Int))) && decide (IntKind.wrap .i64 ((↑(List.length q3) : Int) - (1 : Int)) < (↑(List.length q3) : Int))) (.br (decide (Int.toNat (IntKind.wrap .i64 ((↑(List.length q3) : Int) - (1 : Int))) < List.length q3)) (.ret (.inl (IntKind.wrap .i64 (q2 + (1 : Int)), List.set q3 (Int.toNat (IntKind.wrap .i64 ((↑(List.length q3) : Int) - (1 : Int)))) (Prod.fst (el_ii q3 (IntKind.wrap .i64 ((↑(List.length q3) : Int) - (1 : Int)))), if Prod.snd (el_ii q0 q2) > Prod.snd (el_ii q3 (IntKind.wrap .i64 ((↑(List.length q3) : Int) - (1 : Int)))) then Prod.snd (el_ii q0 q2) else Prod.snd (el_ii q3 (IntKind.wrap .i64 ((↑(List.length q3) : Int) - (1 : Int)))))))) (.bad 19)) (.bad 31)) (.bad 12)) (.bad 31)) (.br (decide ((List.length q3 + (1 : Nat)) * (16 : Nat) ≤ maxNew) && decide (List.length q3 + (1 : Nat) ≤ maxLen)) (.ret (.inl (IntKind.wrap .i64 (q2 + (1 : Int)), q3 ++ [(Prod.fst (el_ii q0 q2), Prod.snd (el_ii q0 q2))]))) (.bad 71))) (.bad 117)) (.bad 29)) (.ret (.inr (0, (q2, q3))))
set_option maxRecDepth 100000 in
set_option maxHeartbeats 4000000 in
theorem mrg_step_eq : ∀ (u : inn_U) (v : mov_V), (evalC Try.prog (evalB Try.prog rgD_S58 (opens []) moA_L51 7).1 (evalB Try.prog rgD_S58 (opens []) moA_L51 7).2 (opens []) (moA_L51 117) 100000 (0 :: [0, 1, 0, 1, 1]) (loopOf (bodyOf Try.prog 117) [1, 1, 0, 1, 0]) (mrg_St u v) []).bind (finF [0, 1, 4, 5, 6, 10, 11, 12, 13, 14, 15, 16, 17, 18, 19, 20, 21, 22, 23, 24, 25, 26, 27, 28, 29, 30, 31, 32, 33, 34, 35, 36, 37, 38, 39, 40, 41, 42, 43, 44, 45] [⟨980, some 3, 0, 0, 69, (.prod (.int .i64) (.int .i64))⟩] [980] [1029] 1005) = (mrg_step u v).bind (outA (mrg_St u) [.exit 0]) := by
  rintro ⟨q0, q1⟩ ⟨q2, q3⟩
  kernel_rfl
noncomputable def mrg_rd (b : Bool) (o2 : Option AV) (o3 : Option AV) (o7 : Option AV) (o8 : Option AV) (o9 : Option AV) (own : Own) : Option (inn_U × mov_V) := zrT b <| zrO o2 fun za1 => zrA1 za1 fun zc2 => zrNil zc2 <| zrO o3 fun za3 => zrA1 za3 fun zc4 => zrSl 980 0 (none) zc4 <| zrO o7 fun za5 => zrA1 za5 fun zc6 => zrD (.prod (.int .i64) (.int .i64)) zc6 fun q0 => zrO o8 fun za7 => zrA1 za7 fun zc8 => zrI .i64 zc8 fun q1 => zrO o9 fun za9 => zrA1 za9 fun zc10 => zrI .i64 zc10 fun q2 => zrL own fun zq11 zw12 => zrKey 980 zq11 fun zk13 => zrR true 69 (.prod (.int .i64) (.int .i64)) zk13 fun q3 => zrN zw12 <| some ((q0, q1), (q2, q3))
noncomputable def mrg_can (st : Stt) : Stt := canA [0, 1, 4, 5, 6, 10, 11, 12, 13, 14, 15, 16, 17, 18, 19, 20, 21, 22, 23, 24, 25, 26, 27, 28, 29, 30, 31, 32, 33, 34, 35, 36, 37, 38, 39, 40, 41, 42, 43, 44, 45] [⟨980, some 3, 0, 0, 69, (.prod (.int .i64) (.int .i64))⟩] [980] [1029] 1005 st
noncomputable def mrg_cok (st : Stt) : Bool := canAok [0, 1, 4, 5, 6, 10, 11, 12, 13, 14, 15, 16, 17, 18, 19, 20, 21, 22, 23, 24, 25, 26, 27, 28, 29, 30, 31, 32, 33, 34, 35, 36, 37, 38, 39, 40, 41, 42, 43, 44, 45] [⟨980, some 3, 0, 0, 69, (.prod (.int .i64) (.int .i64))⟩] [980] [1029] 1005 st
noncomputable def mrg_read (st : Stt) : Option (inn_U × mov_V) := mrg_rd (mrg_cok st && (staysA [⟨980, some 3, 0, 0, 69, (.prod (.int .i64) (.int .i64))⟩] [980] st.own && juAll [0, 1, 4, 5, 6, 10, 11, 12, 13, 14, 15, 16, 17, 18, 19, 20, 21, 22, 23, 24, 25, 26, 27, 28, 29, 30, 31, 32, 33, 34, 35, 36, 37, 38, 39, 40, 41, 42, 43, 44, 45] (mrg_can st).tm 46)) (mrg_can st).tm[2]? (mrg_can st).tm[3]? (mrg_can st).tm[7]? (mrg_can st).tm[8]? (mrg_can st).tm[9]? (mrg_can st).own
set_option maxRecDepth 100000 in
set_option maxHeartbeats 4000000 in
theorem mrg_rd_ok {b : Bool} {tm : List AV} {own : Own} {u : inn_U} {v : mov_V} (hj : b = true → juAll [0, 1, 4, 5, 6, 10, 11, 12, 13, 14, 15, 16, 17, 18, 19, 20, 21, 22, 23, 24, 25, 26, 27, 28, 29, 30, 31, 32, 33, 34, 35, 36, 37, 38, 39, 40, 41, 42, 43, 44, 45] tm 46 = true) (h : mrg_rd b tm[2]? tm[3]? tm[7]? tm[8]? tm[9]? own = some (u, v)) : b = true ∧ tm = (mrg_St u v).tm ∧ own = (mrg_St u v).own := by
  unfold mrg_rd at h
  obtain ⟨rfl, h0⟩ := zrT_some h
  obtain ⟨za1, e2, h1⟩ := zrO_some h0
  obtain ⟨zc2, rfl, h2⟩ := zrA1_some h1
  obtain ⟨rfl, h3⟩ := zrNil_some h2
  obtain ⟨za3, e3, h4⟩ := zrO_some h3
  obtain ⟨zc4, rfl, h5⟩ := zrA1_some h4
  obtain ⟨rfl, h6⟩ := zrSl_some h5
  obtain ⟨za5, e7, h7⟩ := zrO_some h6
  obtain ⟨zc6, rfl, h8⟩ := zrA1_some h7
  obtain ⟨q0, rfl, h9⟩ := zrD_some h8
  obtain ⟨za7, e8, h10⟩ := zrO_some h9
  obtain ⟨zc8, rfl, h11⟩ := zrA1_some h10
  obtain ⟨q1, rfl, h12⟩ := zrI_some h11
  obtain ⟨za9, e9, h13⟩ := zrO_some h12
  obtain ⟨zc10, rfl, h14⟩ := zrA1_some h13
  obtain ⟨q2, rfl, h15⟩ := zrI_some h14
  obtain ⟨zq11, zw12, rfl, h16⟩ := zrL_some h15
  obtain ⟨zk13, rfl, h17⟩ := zrKey_some h16
  obtain ⟨q3, rfl, h18⟩ := zrR_some h17
  obtain ⟨rfl, h19⟩ := zrN_some h18
  have h := Option.some.inj h19
  have hu := congrArg Prod.fst h
  have hv := congrArg Prod.snd h
  dsimp only at hu hv
  subst hu
  subst hv
  exact ⟨rfl, (tm_fill (hj rfl) (Lv := [(2, .one (.v false (Value.slice none (0 : Nat) (0 : Nat)))), (3, .one (.s false 980 0 (none))), (7, .one (.d false false (.prod (.int .i64) (.int .i64)) q0)), (8, .one (.v false (.int .i64 q1))), (9, .one (.v false (.int .i64 q2)))]) (by kernel_rfl) ⟨e2, e3, e7, e8, e9, trivial⟩).trans (by kernel_rfl), rfl⟩
theorem mrg_read_ok (st : Stt) (u : inn_U) (v : mov_V) (h : mrg_read st = some (u, v)) : mrg_cok st = true ∧ staysA [⟨980, some 3, 0, 0, 69, (.prod (.int .i64) (.int .i64))⟩] [980] st.own = true ∧ mrg_can st = mrg_St u v := by
  obtain ⟨h1, h2, h3⟩ := mrg_rd_ok (fun hb => by rw [Bool.and_eq_true, Bool.and_eq_true] at hb; exact hb.2.2) h
  rw [Bool.and_eq_true, Bool.and_eq_true] at h1
  refine ⟨h1.1, h1.2.1, ?_⟩
  have e : mrg_can st = ⟨(mrg_can st).tm, (mrg_can st).own, 1005⟩ := by kernel_rfl
  rw [e, h2, h3]
  rfl
noncomputable def mrg_cond (u : inn_U) (v : mov_V) : Bool := runC (mrg_step u) v
noncomputable def mrg_g (u : inn_U) (v : mov_V) : Nat × mov_V := runG (mrg_step u) v
theorem mrg_hg : ∀ (u : inn_U) (v : mov_V), mrg_cond u v = true → loopN (mrg_step u) ((fun u v => runF (mrg_step u) v) u v) v = some (mrg_g u v) := by
  exact fun u v h => run_hg h
noncomputable def mrg_m (st : Stt) : Option (Tr (Ex × Stt)) := sumM mrg_read mrg_cond mrg_St mrg_g [(0, .exit 0)] st
noncomputable def moA_L52 : FuncId → Loops := addL 117 [0, 1, 0, 1, 1] mrg_m moA_L51
set_option maxRecDepth 100000 in
set_option maxHeartbeats 4000000 in
theorem moA_L52_ok : LoopsOK Try.prog moA_L52 :=
  loop_sumF (body := (bodyOf Try.prog 117)) (c := (loopOf (bodyOf Try.prog 117) [1, 1, 0, 1, 0])) (kinds := [.exit 0]) (allow := [(0, .exit 0)]) (St := mrg_St) (step := mrg_step) (W := [0, 1, 4, 5, 6, 10, 11, 12, 13, 14, 15, 16, 17, 18, 19, 20, 21, 22, 23, 24, 25, 26, 27, 28, 29, 30, 31, 32, 33, 34, 35, 36, 37, 38, 39, 40, 41, 42, 43, 44, 45]) (As := [⟨980, some 3, 0, 0, 69, (.prod (.int .i64) (.int .i64))⟩]) (ks := [980]) (dd := [1029]) (nx := 1005) (n := 100000) (g := mrg_g) (cond := mrg_cond) (fuel := (fun u v => runF (mrg_step u) v)) (read := mrg_read) (by kernel_rfl) (rgD_S58_ok) (moA_L51_ok) 7 ⟨Try.f117, by kernel_rfl, by kernel_rfl⟩ (by kernel_rfl) (by kernel_rfl) (by kernel_rfl) mrg_step_eq mrg_hg mrg_read_ok
noncomputable def mvOk (L : Rl) (a b : Int) : Bool := valB L && (decide (L.length ≤ 100000) && (decide (-2097152 ≤ a) && (decide (a ≤ 2097152) && (decide (-2097152 ≤ b) && decide (b ≤ 2097152)))))
noncomputable def grOk (L : Rl) (k : Int) : Bool := (valB L && decide (L.length ≤ 50000)) && ((decide (0 ≤ k) && decide (k ≤ 64)) && L.all fun r => decide (-100000 ≤ r.1) && decide (r.2 ≤ 100000))
theorem mov_run {L : Rl} {a b : Int} (h : mvOk L a b = true) : mov_cond (a, b, L, (L.length : Int)) (0, []) = true ∧ mov_g (a, b, L, (L.length : Int)) (0, []) = (0, ((L.length : Int), mvR L a b)) := by
  unfold mvOk at h
  simp only [Bool.and_eq_true, decide_eq_true_eq] at h
  obtain ⟨hv, hn, a1, a2, b1, b2⟩ := h
  have hv := valB_iff.1 hv
  have R := run_steps (step := mov_step (a, b, L, (L.length : Int))) (St := fun j => ((j : Int), mvR (L.take j) a b)) (n := L.length) (t := (0, ((L.length : Int), mvR L a b))) (by
    simp only [mov_step, Tr.val, Int.lt_irrefl, decide_false, cond_false, List.take_length]) L.length 0 (Nat.zero_add _) (fun j _ hj => by
    have g := good_in hv hj
    have w2 : IntKind.wrap .i64 (L[j].1 + a) = L[j].1 + a := wid (by omega) (by omega)
    have w3 : IntKind.wrap .i64 (L[j].2 + b) = L[j].2 + b := wid (by omega) (by omega)
    have hl := mvR_len (L.take j) a b
    rw [List.length_take] at hl
    obtain ⟨r1, r2⟩ := room16 (n := (mvR (L.take j) a b).length + 1) (by omega)
    rw [mvR_take hj]
    simp only [mov_step, Tr.val, lt_t hj, nn_t, el_r hj, w2, w3, r1, r2, wi1 hj (show (L.length : Int) ≤ 9223372036854775806 by omega), Bool.and_self, cond_true]
    cases decide (L[j].1 + a < L[j].2 + b)
    · simp
    · rfl)
  exact R
theorem mrg_run {L : Rl} (hn : L.length ≤ 100000) : mrg_cond (L, (L.length : Int)) (0, []) = true ∧ mrg_g (L, (L.length : Int)) (0, []) = (0, ((L.length : Int), mrgR L)) := by
  have R := run_steps (step := mrg_step (L, (L.length : Int))) (St := fun j => ((j : Int), mrgR (L.take j))) (n := L.length) (t := (0, ((L.length : Int), mrgR L))) (by
    simp only [mrg_step, Tr.val, Int.lt_irrefl, decide_false, cond_false, List.take_length]) L.length 0 (Nat.zero_add _) (fun j _ hj => by
    have hl := mrgR_len (L.take j)
    rw [List.length_take] at hl
    rw [mrgR_take hj]
    generalize mrgR (L.take j) = acc at *
    obtain ⟨r1, r2⟩ := room16 (n := acc.length + 1) (by omega)
    have w1 := wi1 hj (show (L.length : Int) ≤ 9223372036854775806 by omega)
    cases hc : acc.length with
    | zero =>
      have e : acc = [] := List.length_eq_zero_iff.1 hc
      subst e
      have e1 : IntKind.wrap .i64 (((0 : Nat) : Int) - (1 : Int)) = -1 := by rw [wid (by omega) (by omega)]; omega
      have d1 : decide ((-1 : Int) ≥ (0 : Int)) = false := decide_eq_false (by omega)
      have r1' : decide ((List.length ([] : Rl) + 1) * 16 ≤ maxNew) = true := r1
      have r2' : decide (List.length ([] : Rl) + 1 ≤ maxLen) = true := r2
      simp only [mrg_step, Tr.val, lt_t hj, nn_t, el_r hj, List.length_nil, e1, d1, w1, Bool.and_self, cond_true, cond_false]
      rfl
    | succ n =>
      have hlt : n < acc.length := by omega
      have e1 : IntKind.wrap .i64 (((n + 1 : Nat) : Int) - (1 : Int)) = (n : Int) := by rw [wid (by omega) (by omega)]; omega
      have d1 : decide ((n : Int) ≥ (0 : Int)) = true := decide_eq_true (by omega)
      have d2 : decide ((n : Int) < ((n + 1 : Nat) : Int)) = true := decide_eq_true (by omega)
      have d3 : decide (n < n + 1) = true := decide_eq_true (by omega)
      have el : lastR acc = acc[n] := by
        unfold lastR
        rw [hc, List.getD, Nat.add_sub_cancel, List.getElem?_eq_getElem hlt]; rfl
      have d4 : decide (0 < acc.length) = true := decide_eq_true (by omega)
      rw [hc] at r1 r2
      unfold mstR
      rw [el, d4, cond_true]
      simp only [mrg_step, Tr.val, lt_t hj, nn_t, el_r hj, hc, e1, d1, d2, d3, el_r hlt, w1, r1, r2, Int.toNat_natCast, Bool.and_self, cond_true, Nat.add_sub_cancel]
      have mx : (if L[j].2 > acc[n].2 then L[j].2 else acc[n].2) = max acc[n].2 L[j].2 := ite_max _ _
      cases decide (L[j].1 ≤ acc[n].2)
      · rfl
      · simp only [cond_true, mx])
  exact R
set_option maxRecDepth 100000 in
theorem movc_tree (L : (Ty.list (.prod (.int .i64) (.int .i64))).den) (a : Int) (b : Int) : evalF Try.prog rgD_S58 (opens []) moA_L52 9 108 [.one (.d false false (.prod (.int .i64) (.int .i64)) L), .one (.v false (.int .i64 a)), .one (.v false (.int .i64 b))] = .br (((mov_cond (a, b, L, (↑(List.length L) : Int)) ((0 : Int), [])) && (Nat.beq (Prod.fst (mov_g (a, b, L, (↑(List.length L) : Int)) ((0 : Int), []))) (0 : Nat)))) (.ret (.one (.d false false (.prod (.int .i64) (.int .i64)) (Prod.snd (Prod.snd (mov_g (a, b, L, (↑(List.length L) : Int)) ((0 : Int), []))))))) (.bad 116) := by kernel_rfl
theorem movc_val (L : (Ty.list (.prod (.int .i64) (.int .i64))).den) (a : Int) (b : Int) (hc : (mvOk L a b) = true) : (.br (((mov_cond (a, b, L, (↑(List.length L) : Int)) ((0 : Int), [])) && (Nat.beq (Prod.fst (mov_g (a, b, L, (↑(List.length L) : Int)) ((0 : Int), []))) (0 : Nat)))) (.ret (.one (.d false false (.prod (.int .i64) (.int .i64)) (Prod.snd (Prod.snd (mov_g (a, b, L, (↑(List.length L) : Int)) ((0 : Int), []))))))) (.bad 116) : Tr AV).val = some (.one (.d false false (.prod (.int .i64) (.int .i64)) (mvR L a b))) := by
  obtain ⟨v1, v2⟩ := mov_run hc
  show cond _ _ _ = _
  simp [v1, v2, Nat.beq, Tr.val]
noncomputable def movc_g : List AV → Option (Tr AV)
  | [.one (.d _ _ (.prod (.int .i64) (.int .i64)) L), .one (.v _ (.int .i64 a)), .one (.v _ (.int .i64 b))] => some (.br (mvOk L a b) (.ret (.one (.d false false (.prod (.int .i64) (.int .i64)) (mvR L a b)))) (.bad 900))
  | _ => none
set_option maxHeartbeats 4000000 in
theorem movc_ok : FunOK Try.prog 108 movc_g := by
  refine fun_ok (by kernel_rfl) (rgD_S58_ok) (moA_L52_ok) 9 (On := (opens [])) (fun args t h => ?_)
  unfold movc_g at h
  split at h
  · rename_i _ _ L _ a _ b
    simp only [Option.some.injEq] at h
    subst h
    refine ⟨[.one (.d false false (.prod (.int .i64) (.int .i64)) L), .one (.v false (.int .i64 a)), .one (.v false (.int .i64 b))], rfl, fun fr w us h => h, fun r hr => ?_⟩
    obtain ⟨hc, hr⟩ := br_bad hr
    simp only [Tr.val, Option.some.injEq] at hr
    subst hr
    rw [movc_tree]
    exact movc_val L a b hc
  · cases h
noncomputable def moA_S53 : Sums := addS 108 movc_g rgD_S58
theorem moA_S53_ok : SumOK Try.prog moA_S53 := addS_ok (movc_ok) (rgD_S58_ok)
set_option maxRecDepth 100000 in
theorem mrgc_tree (L : (Ty.list (.prod (.int .i64) (.int .i64))).den) : evalF Try.prog moA_S53 (opens []) moA_L52 9 117 [.one (.d false false (.prod (.int .i64) (.int .i64)) L)] = .br (((mrg_cond (L, (↑(List.length L) : Int)) ((0 : Int), [])) && (Nat.beq (Prod.fst (mrg_g (L, (↑(List.length L) : Int)) ((0 : Int), []))) (0 : Nat)))) (.ret (.one (.d false false (.prod (.int .i64) (.int .i64)) (Prod.snd (Prod.snd (mrg_g (L, (↑(List.length L) : Int)) ((0 : Int), []))))))) (.bad 116) := by kernel_rfl
theorem mrgc_val (L : (Ty.list (.prod (.int .i64) (.int .i64))).den) (hc : (decide (L.length ≤ 100000)) = true) : (.br (((mrg_cond (L, (↑(List.length L) : Int)) ((0 : Int), [])) && (Nat.beq (Prod.fst (mrg_g (L, (↑(List.length L) : Int)) ((0 : Int), []))) (0 : Nat)))) (.ret (.one (.d false false (.prod (.int .i64) (.int .i64)) (Prod.snd (Prod.snd (mrg_g (L, (↑(List.length L) : Int)) ((0 : Int), []))))))) (.bad 116) : Tr AV).val = some (.one (.d false false (.prod (.int .i64) (.int .i64)) (mrgR L))) := by
  have hn := of_decide_eq_true hc
  obtain ⟨v1, v2⟩ := mrg_run hn
  show cond _ _ _ = _
  simp [v1, v2, Nat.beq, Tr.val]
noncomputable def mrgc_g : List AV → Option (Tr AV)
  | [.one (.d _ _ (.prod (.int .i64) (.int .i64)) L)] => some (.br (decide (L.length ≤ 100000)) (.ret (.one (.d false false (.prod (.int .i64) (.int .i64)) (mrgR L)))) (.bad 900))
  | _ => none
set_option maxHeartbeats 4000000 in
theorem mrgc_ok : FunOK Try.prog 117 mrgc_g := by
  refine fun_ok (by kernel_rfl) (moA_S53_ok) (moA_L52_ok) 9 (On := (opens [])) (fun args t h => ?_)
  unfold mrgc_g at h
  split at h
  · rename_i _ _ L
    simp only [Option.some.injEq] at h
    subst h
    refine ⟨[.one (.d false false (.prod (.int .i64) (.int .i64)) L)], rfl, fun fr w us h => h, fun r hr => ?_⟩
    obtain ⟨hc, hr⟩ := br_bad hr
    simp only [Tr.val, Option.some.injEq] at hr
    subst hr
    rw [mrgc_tree]
    exact mrgc_val L hc
  · cases h
noncomputable def moA_S54 : Sums := addS 117 mrgc_g moA_S53
theorem moA_S54_ok : SumOK Try.prog moA_S54 := addS_ok (mrgc_ok) (moA_S53_ok)
theorem gr_in {L : Rl} {k : Int} (h : grOk L k = true) : valR L ∧ L.length ≤ 50000 ∧ 0 ≤ k ∧ k ≤ 64 ∧ ∀ r ∈ L, -100000 ≤ r.1 ∧ r.2 ≤ 100000 := by
  unfold grOk at h
  rw [Bool.and_eq_true, Bool.and_eq_true, Bool.and_eq_true, Bool.and_eq_true, decide_eq_true_eq, decide_eq_true_eq, decide_eq_true_eq, List.all_eq_true] at h
  exact ⟨valB_iff.1 h.1.1, h.1.2, h.2.1.1, h.2.1.2, fun r hr => by have := h.2.2 r hr; rw [Bool.and_eq_true, decide_eq_true_eq, decide_eq_true_eq] at this; exact this⟩
theorem gr_of {L : Rl} {k : Int} (h1 : valR L) (h2 : L.length ≤ 50000) (h3 : 0 ≤ k) (h4 : k ≤ 64) (h5 : ∀ r ∈ L, -100000 ≤ r.1 ∧ r.2 ≤ 100000) : grOk L k = true := by
  unfold grOk
  rw [Bool.and_eq_true, Bool.and_eq_true, Bool.and_eq_true, Bool.and_eq_true, decide_eq_true_eq, decide_eq_true_eq, decide_eq_true_eq, List.all_eq_true]
  exact ⟨⟨valB_iff.2 h1, h2⟩, ⟨h3, h4⟩, fun r hr => by rw [Bool.and_eq_true, decide_eq_true_eq, decide_eq_true_eq]; exact h5 r hr⟩
theorem mo_of {L : Rl} {a b : Int} (h1 : valR L) (h2 : L.length ≤ 100000) (h3 : -2097152 ≤ a ∧ a ≤ 2097152) (h4 : -2097152 ≤ b ∧ b ≤ 2097152) : mvOk L a b = true := by
  unfold mvOk
  simp only [Bool.and_eq_true, decide_eq_true_eq]
  exact ⟨valB_iff.2 h1, h2, h3.1, h3.2, h4.1, h4.2⟩
noncomputable def moA_S55 : Sums := moA_S54
theorem moA_S55_ok : SumOK Try.prog moA_S55 := moA_S54_ok
set_option maxRecDepth 100000 in
theorem grc_tree (L : (Ty.list (.prod (.int .i64) (.int .i64))).den) (k : Int) : evalF Try.prog moA_S55 (opens []) moA_L52 9 79 [.one (.d false false (.prod (.int .i64) (.int .i64)) L), .one (.v false (.int .i64 k))] = .br ((((decide ((↑(List.length L) : Int) ≤ (9223372036854775807 : Int))) && (bif bif bif !valB L then true else decide (k < (0 : Int)) then true else decide (k > (65536 : Int)) then true else ((mvOk L (IntKind.wrap .i64 ((0 : Int) - k)) k) && (((bif decide ((↑(List.length (mvR L (IntKind.wrap .i64 ((0 : Int) - k)) k)) : Int) > (0 : Int)) then ((decide ((0 : Int) ≤ (0 : Int)) && decide ((0 : Int) < (↑(List.length (mvR L (IntKind.wrap .i64 ((0 : Int) - k)) k)) : Int))) && (bif decide (Prod.fst (el_ii (mvR L (IntKind.wrap .i64 ((0 : Int) - k)) k) (0 : Int)) < (-1048576 : Int)) then true else (decide ((0 : Int) ≤ IntKind.wrap .i64 ((↑(List.length (mvR L (IntKind.wrap .i64 ((0 : Int) - k)) k)) : Int) - (1 : Int))) && decide (IntKind.wrap .i64 ((↑(List.length (mvR L (IntKind.wrap .i64 ((0 : Int) - k)) k)) : Int) - (1 : Int)) < (↑(List.length (mvR L (IntKind.wrap .i64 ((0 : Int) - k)) k)) : Int))))) else true)) && (bif bif decide ((↑(List.length (mvR L (IntKind.wrap .i64 ((0 : Int) - k)) k)) : Int) > (0 : Int)) then bif decide (Prod.fst (el_ii (mvR L (IntKind.wrap .i64 ((0 : Int) - k)) k) (0 : Int)) < (-1048576 : Int)) then true else decide (Prod.snd (el_ii (mvR L (IntKind.wrap .i64 ((0 : Int) - k)) k) (IntKind.wrap .i64 ((↑(List.length (mvR L (IntKind.wrap .i64 ((0 : Int) - k)) k)) : Int) - (1 : Int)))) > (1048576 : Int)) else false then true else (decide (List.length (mvR L (IntKind.wrap .i64 ((0 : Int) - k)) k) ≤ (100000 : Nat)))))))))) (.ret (.one (.d false false (.prod (.int .i64) (.int .i64)) (bif bif bif !valB L then true else decide (k < (0 : Int)) then true else decide (k > (65536 : Int)) then [] else bif bif decide ((↑(List.length (mvR L (IntKind.wrap .i64 ((0 : Int) - k)) k)) : Int) > (0 : Int)) then bif decide (Prod.fst (el_ii (mvR L (IntKind.wrap .i64 ((0 : Int) - k)) k) (0 : Int)) < (-1048576 : Int)) then true else decide (Prod.snd (el_ii (mvR L (IntKind.wrap .i64 ((0 : Int) - k)) k) (IntKind.wrap .i64 ((↑(List.length (mvR L (IntKind.wrap .i64 ((0 : Int) - k)) k)) : Int) - (1 : Int)))) > (1048576 : Int)) else false then [] else mrgR (mvR L (IntKind.wrap .i64 ((0 : Int) - k)) k))))) (.bad 116) := by kernel_rfl
theorem grc_val (L : (Ty.list (.prod (.int .i64) (.int .i64))).den) (k : Int) (hc : (grOk L k) = true) : (.br ((((decide ((↑(List.length L) : Int) ≤ (9223372036854775807 : Int))) && (bif bif bif !valB L then true else decide (k < (0 : Int)) then true else decide (k > (65536 : Int)) then true else ((mvOk L (IntKind.wrap .i64 ((0 : Int) - k)) k) && (((bif decide ((↑(List.length (mvR L (IntKind.wrap .i64 ((0 : Int) - k)) k)) : Int) > (0 : Int)) then ((decide ((0 : Int) ≤ (0 : Int)) && decide ((0 : Int) < (↑(List.length (mvR L (IntKind.wrap .i64 ((0 : Int) - k)) k)) : Int))) && (bif decide (Prod.fst (el_ii (mvR L (IntKind.wrap .i64 ((0 : Int) - k)) k) (0 : Int)) < (-1048576 : Int)) then true else (decide ((0 : Int) ≤ IntKind.wrap .i64 ((↑(List.length (mvR L (IntKind.wrap .i64 ((0 : Int) - k)) k)) : Int) - (1 : Int))) && decide (IntKind.wrap .i64 ((↑(List.length (mvR L (IntKind.wrap .i64 ((0 : Int) - k)) k)) : Int) - (1 : Int)) < (↑(List.length (mvR L (IntKind.wrap .i64 ((0 : Int) - k)) k)) : Int))))) else true)) && (bif bif decide ((↑(List.length (mvR L (IntKind.wrap .i64 ((0 : Int) - k)) k)) : Int) > (0 : Int)) then bif decide (Prod.fst (el_ii (mvR L (IntKind.wrap .i64 ((0 : Int) - k)) k) (0 : Int)) < (-1048576 : Int)) then true else decide (Prod.snd (el_ii (mvR L (IntKind.wrap .i64 ((0 : Int) - k)) k) (IntKind.wrap .i64 ((↑(List.length (mvR L (IntKind.wrap .i64 ((0 : Int) - k)) k)) : Int) - (1 : Int)))) > (1048576 : Int)) else false then true else (decide (List.length (mvR L (IntKind.wrap .i64 ((0 : Int) - k)) k) ≤ (100000 : Nat)))))))))) (.ret (.one (.d false false (.prod (.int .i64) (.int .i64)) (bif bif bif !valB L then true else decide (k < (0 : Int)) then true else decide (k > (65536 : Int)) then [] else bif bif decide ((↑(List.length (mvR L (IntKind.wrap .i64 ((0 : Int) - k)) k)) : Int) > (0 : Int)) then bif decide (Prod.fst (el_ii (mvR L (IntKind.wrap .i64 ((0 : Int) - k)) k) (0 : Int)) < (-1048576 : Int)) then true else decide (Prod.snd (el_ii (mvR L (IntKind.wrap .i64 ((0 : Int) - k)) k) (IntKind.wrap .i64 ((↑(List.length (mvR L (IntKind.wrap .i64 ((0 : Int) - k)) k)) : Int) - (1 : Int)))) > (1048576 : Int)) else false then [] else mrgR (mvR L (IntKind.wrap .i64 ((0 : Int) - k)) k))))) (.bad 116) : Tr AV).val = some (.one (.d false false (.prod (.int .i64) (.int .i64)) (wdR true L k))) := by
  obtain ⟨K, rfl⟩ : ∃ K : Rl, K = L := ⟨L, rfl⟩
  obtain ⟨hv, hn, k0, k1, hb⟩ := gr_in (L := K) hc
  have d0 : decide ((K.length : Int) ≤ 9223372036854775807) = true := decide_eq_true (by omega)
  have vb := valB_iff.2 hv
  have d1 : decide (k < (0 : Int)) = false := decide_eq_false (by omega)
  have d2 : decide (k > (65536 : Int)) = false := decide_eq_false (by omega)
  have w : IntKind.wrap .i64 ((0 : Int) - k) = -k := by rw [wid (by omega) (by omega)]; omega
  have mo := mo_of (L := K) (a := -k) (b := k) hv (by omega) (by omega) (by omega)
  have ml := mvR_len K (-k) k
  have c3 : decide ((mvR K (-k) k).length ≤ 100000) = true := decide_eq_true (by omega)
  have hM : ∀ q ∈ mvR K (-k) k, -1048576 ≤ q.1 ∧ q.2 ≤ 1048576 := fun q hq => by
    obtain ⟨r, hr, rfl⟩ := List.mem_map.1 hq
    have := hb r (List.mem_filter.1 hr).1
    exact ⟨by show -1048576 ≤ r.1 + -k; omega, by show r.2 + k ≤ 1048576; omega⟩
  have wt : wdR true K k = mrgR (mvR K (-k) k) := rfl
  rw [wt]
  show cond _ _ _ = _
  rw [w]
  generalize mvR K (-k) k = M at *
  by_cases h0 : M.length = 0
  · have e2 : decide ((M.length : Int) > (0 : Int)) = false := decide_eq_false (by omega)
    simp only [d0, vb, d1, d2, mo, e2, c3, Bool.not_true, Bool.and_self, cond_true, cond_false, Tr.val]
  · have hp : 0 < M.length := by omega
    have e2 : decide ((M.length : Int) > (0 : Int)) = true := decide_eq_true (by omega)
    have e0 : el_ii M (0 : Int) = M[0] := el_r (i := 0) hp
    have e1 : IntKind.wrap .i64 ((M.length : Int) - (1 : Int)) = ((M.length - 1 : Nat) : Int) := by rw [wid (by omega) (by omega)]; omega
    have e3 := el_r (L := M) (i := M.length - 1) (by omega)
    have f1 : decide (M[0].1 < (-1048576 : Int)) = false := decide_eq_false (by have := (hM _ (List.getElem_mem hp)).1; omega)
    have f2 : decide ((M[M.length - 1]'(by omega)).2 > (1048576 : Int)) = false := decide_eq_false (by have := (hM _ (List.getElem_mem (show M.length - 1 < M.length by omega))).2; omega)
    have c0 : decide ((0 : Int) < (M.length : Int)) = true := decide_eq_true (by omega)
    have c1 : decide (((M.length - 1 : Nat) : Int) < (M.length : Int)) = true := decide_eq_true (by omega)
    have c2 : decide ((0 : Int) ≤ ((M.length - 1 : Nat) : Int)) = true := decide_eq_true (by omega)
    have c4 : decide ((0 : Int) ≤ (0 : Int)) = true := rfl
    simp only [d0, vb, d1, d2, mo, e2, e0, e1, e3, f1, f2, c0, c1, c2, c3, c4, Bool.not_true, Bool.and_self, cond_true, cond_false, Tr.val]
noncomputable def grc_g : List AV → Option (Tr AV)
  | [.one (.d _ _ (.prod (.int .i64) (.int .i64)) L), .one (.v _ (.int .i64 k))] => some (.br (grOk L k) (.ret (.one (.d false false (.prod (.int .i64) (.int .i64)) (wdR true L k)))) (.bad 900))
  | _ => none
set_option maxHeartbeats 4000000 in
theorem grc_ok : FunOK Try.prog 79 grc_g := by
  refine fun_ok (by kernel_rfl) (moA_S55_ok) (moA_L52_ok) 9 (On := (opens [])) (fun args t h => ?_)
  unfold grc_g at h
  split at h
  · rename_i _ _ L _ k
    simp only [Option.some.injEq] at h
    subst h
    refine ⟨[.one (.d false false (.prod (.int .i64) (.int .i64)) L), .one (.v false (.int .i64 k))], rfl, fun fr w us h => h, fun r hr => ?_⟩
    obtain ⟨hc, hr⟩ := br_bad hr
    simp only [Tr.val, Option.some.injEq] at hr
    subst hr
    rw [grc_tree]
    exact grc_val L k hc
  · cases h
noncomputable def moA_S56 : Sums := addS 79 grc_g moA_S55
theorem moA_S56_ok : SumOK Try.prog moA_S56 := addS_ok (grc_ok) (moA_S55_ok)
abbrev box_U : Type := Bool × (Ty.list (.prod (.int .i64) (.list (.prod (.int .i64) (.int .i64))))).den × Int × Int × Int × Int × Int × Int × Int
abbrev box_V : Type := Int × Int × Int
noncomputable def box_St (u : box_U) (v : box_V) : Stt := ⟨[.one .junk, .one .junk, .one (.p 1 0), .one (.p 2 0), .one (.v false (.bool u.1)), .one (.p 19 0), .one (.p 31 0), .one .junk, .one .junk, .one .junk, .one .junk, .one .junk, .one .junk, .one .junk, .one .junk, .one .junk, .one .junk, .one .junk, .one .junk, .one .junk, .one .junk, .one .junk, .one .junk, .one .junk, .one .junk, .one .junk, .one .junk, .one .junk, .one .junk, .one .junk, .one .junk, .one .junk, .one .junk, .one .junk, .one .junk, .one .junk, .one .junk, .one (.d false false (.prod (.int .i64) (.list (.prod (.int .i64) (.int .i64)))) u.2.1), .one (.v false (.int .i64 u.2.2.1)), .one (.v false (.int .i64 v.1)), .one .junk, .one .junk, .one .junk, .one .junk, .one .junk, .one .junk, .one .junk, .one .junk, .one .junk, .one .junk, .one .junk, .one .junk, .one .junk, .one .junk, .one .junk, .one .junk, .one .junk, .one .junk, .one .junk, .one .junk, .one .junk, .one .junk, .one .junk, .one .junk, .one .junk, .one .junk, .one .junk, .one .junk, .one .junk], [(31, .cells [.v false (.int .i64 v.2.1), .v false (.int .i64 u.2.2.2.1)]), (19, .cells [.v false (.int .i64 v.2.2), .v false (.int .i64 u.2.2.2.2.1)]), (2, .cells [.v false (.int .i64 u.2.2.2.2.2.1), .v false (.int .i64 u.2.2.2.2.2.2.1)]), (1, .cells [.v false (.int .i64 u.2.2.2.2.2.2.2.1), .v false (.int .i64 u.2.2.2.2.2.2.2.2)]), (0, .dead)], 1037⟩
noncomputable def box_step (u : box_U) (v : box_V) : Tr (box_V ⊕ (Nat × box_V)) :=
  match u, v with
  | (_, q1, q2, _, _, _, _, _, _), (q3, q4, q6) => .br (decide (q3 < q2)) (.br (decide ((0 : Int) ≤ q3) && decide (q3 < (↑(List.length q1) : Int))) (.br (decide ((0 : Int) ≤ (0 : Int)) && decide ((0 : Int) < (↑(List.length (Prod.snd (el_ilii q1 q3))) : Int))) (.br (decide ((0 : Int) ≤ IntKind.wrap .i64 ((↑(List.length (Prod.snd (el_ilii q1 q3))) : Int) - (1 : Int))) && decide (IntKind.wrap .i64 ((↑(List.length (Prod.snd (el_ilii q1 q3))) : Int) - (1 : Int)) < (↑(List.length (Prod.snd (el_ilii q1 q3))) : Int))) (.ret (.inl (IntKind.wrap .i64 (q3 + (1 : Int)), if IntKind.wrap .i64 (Prod.snd (el_ii (Prod.snd (el_ilii q1 q3)) (IntKind.wrap .i64 ((↑(List.length (Prod.snd (el_ilii q1 q3))) : Int) - (1 : Int)))) - (1 : Int)) > q4 then IntKind.wrap .i64 (Prod.snd (el_ii (Prod.snd (el_ilii q1 q3)) (IntKind.wrap .i64 ((↑(List.length (Prod.snd (el_ilii q1 q3))) : Int) - (1 : Int)))) - (1 : Int)) else q4, if Prod.fst (el_ii (Prod.snd (el_ilii q1 q3)) (0 : Int)) < q6 then Prod.fst (el_ii (Prod.snd (el_ilii q1 q3)) (0 : Int)) else q6))) (.bad 29)) (.bad 29)) (.bad 29)) (.ret (.inr (0, (q3, q4, q6))))
set_option maxRecDepth 100000 in
set_option maxHeartbeats 4000000 in
theorem box_step_eq : ∀ (u : box_U) (v : box_V), (evalC Try.prog (evalB Try.prog moA_S56 (opens []) moA_L52 7).1 (evalB Try.prog moA_S56 (opens []) moA_L52 7).2 (opens []) (moA_L52 78) 100000 (0 :: [0, 1, 0, 1, 1, 1, 1]) (loopOf (bodyOf Try.prog 78) [1, 1, 1, 1, 0, 1, 0]) (box_St u v) []).bind (finF [0, 1, 7, 8, 9, 10, 11, 12, 13, 14, 15, 16, 17, 18, 19, 20, 21, 22, 23, 24, 25, 26, 27, 28, 29, 30, 31, 32, 33, 34, 35, 36, 40, 41, 42, 43, 44, 45, 46, 47, 48, 49, 50, 51, 52, 53, 54, 55, 56, 57, 58, 59, 60, 61, 62, 63, 64, 65, 66, 67, 68] [] [31, 19, 2, 1, 0] [0] 1037) = (box_step u v).bind (outA (box_St u) [.exit 0]) := by
  rintro ⟨q0, q1, q2, q5, q7, q8, q9, q10, q11⟩ ⟨q3, q4, q6⟩
  kernel_rfl
noncomputable def box_rd (b : Bool) (o2 : Option AV) (o3 : Option AV) (o4 : Option AV) (o5 : Option AV) (o6 : Option AV) (o37 : Option AV) (o38 : Option AV) (o39 : Option AV) (own : Own) : Option (box_U × box_V) := zrT b <| zrO o2 fun za1 => zrA1 za1 fun zc2 => zrP 1 0 zc2 <| zrO o3 fun za3 => zrA1 za3 fun zc4 => zrP 2 0 zc4 <| zrO o4 fun za5 => zrA1 za5 fun zc6 => zrB zc6 fun q0 => zrO o5 fun za7 => zrA1 za7 fun zc8 => zrP 19 0 zc8 <| zrO o6 fun za9 => zrA1 za9 fun zc10 => zrP 31 0 zc10 <| zrO o37 fun za11 => zrA1 za11 fun zc12 => zrD (.prod (.int .i64) (.list (.prod (.int .i64) (.int .i64)))) zc12 fun q1 => zrO o38 fun za13 => zrA1 za13 fun zc14 => zrI .i64 zc14 fun q2 => zrO o39 fun za15 => zrA1 za15 fun zc16 => zrI .i64 zc16 fun q3 => zrL own fun zq17 zw18 => zrKey 31 zq17 fun zk19 => zrC zk19 fun zl20 => zrL zl20 fun zc21 zr22 => zrI .i64 zc21 fun q4 => zrL zr22 fun zc23 zr24 => zrI .i64 zc23 fun q5 => zrN zr24 <| zrL zw18 fun zq25 zw26 => zrKey 19 zq25 fun zk27 => zrC zk27 fun zl28 => zrL zl28 fun zc29 zr30 => zrI .i64 zc29 fun q6 => zrL zr30 fun zc31 zr32 => zrI .i64 zc31 fun q7 => zrN zr32 <| zrL zw26 fun zq33 zw34 => zrKey 2 zq33 fun zk35 => zrC zk35 fun zl36 => zrL zl36 fun zc37 zr38 => zrI .i64 zc37 fun q8 => zrL zr38 fun zc39 zr40 => zrI .i64 zc39 fun q9 => zrN zr40 <| zrL zw34 fun zq41 zw42 => zrKey 1 zq41 fun zk43 => zrC zk43 fun zl44 => zrL zl44 fun zc45 zr46 => zrI .i64 zc45 fun q10 => zrL zr46 fun zc47 zr48 => zrI .i64 zc47 fun q11 => zrN zr48 <| zrL zw42 fun zq49 zw50 => zrKey 0 zq49 fun zk51 => zrX zk51 <| zrN zw50 <| some ((q0, q1, q2, q5, q7, q8, q9, q10, q11), (q3, q4, q6))
noncomputable def box_can (st : Stt) : Stt := canA [0, 1, 7, 8, 9, 10, 11, 12, 13, 14, 15, 16, 17, 18, 19, 20, 21, 22, 23, 24, 25, 26, 27, 28, 29, 30, 31, 32, 33, 34, 35, 36, 40, 41, 42, 43, 44, 45, 46, 47, 48, 49, 50, 51, 52, 53, 54, 55, 56, 57, 58, 59, 60, 61, 62, 63, 64, 65, 66, 67, 68] [] [31, 19, 2, 1, 0] [0] 1037 st
noncomputable def box_cok (st : Stt) : Bool := canAok [0, 1, 7, 8, 9, 10, 11, 12, 13, 14, 15, 16, 17, 18, 19, 20, 21, 22, 23, 24, 25, 26, 27, 28, 29, 30, 31, 32, 33, 34, 35, 36, 40, 41, 42, 43, 44, 45, 46, 47, 48, 49, 50, 51, 52, 53, 54, 55, 56, 57, 58, 59, 60, 61, 62, 63, 64, 65, 66, 67, 68] [] [31, 19, 2, 1, 0] [0] 1037 st
noncomputable def box_read (st : Stt) : Option (box_U × box_V) := box_rd (box_cok st && (staysA [] [31, 19, 2, 1, 0] st.own && juAll [0, 1, 7, 8, 9, 10, 11, 12, 13, 14, 15, 16, 17, 18, 19, 20, 21, 22, 23, 24, 25, 26, 27, 28, 29, 30, 31, 32, 33, 34, 35, 36, 40, 41, 42, 43, 44, 45, 46, 47, 48, 49, 50, 51, 52, 53, 54, 55, 56, 57, 58, 59, 60, 61, 62, 63, 64, 65, 66, 67, 68] (box_can st).tm 69)) (box_can st).tm[2]? (box_can st).tm[3]? (box_can st).tm[4]? (box_can st).tm[5]? (box_can st).tm[6]? (box_can st).tm[37]? (box_can st).tm[38]? (box_can st).tm[39]? (box_can st).own
set_option maxRecDepth 100000 in
set_option maxHeartbeats 4000000 in
theorem box_rd_ok {b : Bool} {tm : List AV} {own : Own} {u : box_U} {v : box_V} (hj : b = true → juAll [0, 1, 7, 8, 9, 10, 11, 12, 13, 14, 15, 16, 17, 18, 19, 20, 21, 22, 23, 24, 25, 26, 27, 28, 29, 30, 31, 32, 33, 34, 35, 36, 40, 41, 42, 43, 44, 45, 46, 47, 48, 49, 50, 51, 52, 53, 54, 55, 56, 57, 58, 59, 60, 61, 62, 63, 64, 65, 66, 67, 68] tm 69 = true) (h : box_rd b tm[2]? tm[3]? tm[4]? tm[5]? tm[6]? tm[37]? tm[38]? tm[39]? own = some (u, v)) : b = true ∧ tm = (box_St u v).tm ∧ own = (box_St u v).own := by
  unfold box_rd at h
  obtain ⟨rfl, h0⟩ := zrT_some h
  obtain ⟨za1, e2, h1⟩ := zrO_some h0
  obtain ⟨zc2, rfl, h2⟩ := zrA1_some h1
  obtain ⟨rfl, h3⟩ := zrP_some h2
  obtain ⟨za3, e3, h4⟩ := zrO_some h3
  obtain ⟨zc4, rfl, h5⟩ := zrA1_some h4
  obtain ⟨rfl, h6⟩ := zrP_some h5
  obtain ⟨za5, e4, h7⟩ := zrO_some h6
  obtain ⟨zc6, rfl, h8⟩ := zrA1_some h7
  obtain ⟨q0, rfl, h9⟩ := zrB_some h8
  obtain ⟨za7, e5, h10⟩ := zrO_some h9
  obtain ⟨zc8, rfl, h11⟩ := zrA1_some h10
  obtain ⟨rfl, h12⟩ := zrP_some h11
  obtain ⟨za9, e6, h13⟩ := zrO_some h12
  obtain ⟨zc10, rfl, h14⟩ := zrA1_some h13
  obtain ⟨rfl, h15⟩ := zrP_some h14
  obtain ⟨za11, e37, h16⟩ := zrO_some h15
  obtain ⟨zc12, rfl, h17⟩ := zrA1_some h16
  obtain ⟨q1, rfl, h18⟩ := zrD_some h17
  obtain ⟨za13, e38, h19⟩ := zrO_some h18
  obtain ⟨zc14, rfl, h20⟩ := zrA1_some h19
  obtain ⟨q2, rfl, h21⟩ := zrI_some h20
  obtain ⟨za15, e39, h22⟩ := zrO_some h21
  obtain ⟨zc16, rfl, h23⟩ := zrA1_some h22
  obtain ⟨q3, rfl, h24⟩ := zrI_some h23
  obtain ⟨zq17, zw18, rfl, h25⟩ := zrL_some h24
  obtain ⟨zk19, rfl, h26⟩ := zrKey_some h25
  obtain ⟨zl20, rfl, h27⟩ := zrC_some h26
  obtain ⟨zc21, zr22, rfl, h28⟩ := zrL_some h27
  obtain ⟨q4, rfl, h29⟩ := zrI_some h28
  obtain ⟨zc23, zr24, rfl, h30⟩ := zrL_some h29
  obtain ⟨q5, rfl, h31⟩ := zrI_some h30
  obtain ⟨rfl, h32⟩ := zrN_some h31
  obtain ⟨zq25, zw26, rfl, h33⟩ := zrL_some h32
  obtain ⟨zk27, rfl, h34⟩ := zrKey_some h33
  obtain ⟨zl28, rfl, h35⟩ := zrC_some h34
  obtain ⟨zc29, zr30, rfl, h36⟩ := zrL_some h35
  obtain ⟨q6, rfl, h37⟩ := zrI_some h36
  obtain ⟨zc31, zr32, rfl, h38⟩ := zrL_some h37
  obtain ⟨q7, rfl, h39⟩ := zrI_some h38
  obtain ⟨rfl, h40⟩ := zrN_some h39
  obtain ⟨zq33, zw34, rfl, h41⟩ := zrL_some h40
  obtain ⟨zk35, rfl, h42⟩ := zrKey_some h41
  obtain ⟨zl36, rfl, h43⟩ := zrC_some h42
  obtain ⟨zc37, zr38, rfl, h44⟩ := zrL_some h43
  obtain ⟨q8, rfl, h45⟩ := zrI_some h44
  obtain ⟨zc39, zr40, rfl, h46⟩ := zrL_some h45
  obtain ⟨q9, rfl, h47⟩ := zrI_some h46
  obtain ⟨rfl, h48⟩ := zrN_some h47
  obtain ⟨zq41, zw42, rfl, h49⟩ := zrL_some h48
  obtain ⟨zk43, rfl, h50⟩ := zrKey_some h49
  obtain ⟨zl44, rfl, h51⟩ := zrC_some h50
  obtain ⟨zc45, zr46, rfl, h52⟩ := zrL_some h51
  obtain ⟨q10, rfl, h53⟩ := zrI_some h52
  obtain ⟨zc47, zr48, rfl, h54⟩ := zrL_some h53
  obtain ⟨q11, rfl, h55⟩ := zrI_some h54
  obtain ⟨rfl, h56⟩ := zrN_some h55
  obtain ⟨zq49, zw50, rfl, h57⟩ := zrL_some h56
  obtain ⟨zk51, rfl, h58⟩ := zrKey_some h57
  obtain ⟨rfl, h59⟩ := zrX_some h58
  obtain ⟨rfl, h60⟩ := zrN_some h59
  have h := Option.some.inj h60
  have hu := congrArg Prod.fst h
  have hv := congrArg Prod.snd h
  dsimp only at hu hv
  subst hu
  subst hv
  exact ⟨rfl, (tm_fill (hj rfl) (Lv := [(2, .one (.p 1 0)), (3, .one (.p 2 0)), (4, .one (.v false (.bool q0))), (5, .one (.p 19 0)), (6, .one (.p 31 0)), (37, .one (.d false false (.prod (.int .i64) (.list (.prod (.int .i64) (.int .i64)))) q1)), (38, .one (.v false (.int .i64 q2))), (39, .one (.v false (.int .i64 q3)))]) (by kernel_rfl) ⟨e2, e3, e4, e5, e6, e37, e38, e39, trivial⟩).trans (by kernel_rfl), rfl⟩
theorem box_read_ok (st : Stt) (u : box_U) (v : box_V) (h : box_read st = some (u, v)) : box_cok st = true ∧ staysA [] [31, 19, 2, 1, 0] st.own = true ∧ box_can st = box_St u v := by
  obtain ⟨h1, h2, h3⟩ := box_rd_ok (fun hb => by rw [Bool.and_eq_true, Bool.and_eq_true] at hb; exact hb.2.2) h
  rw [Bool.and_eq_true, Bool.and_eq_true] at h1
  refine ⟨h1.1, h1.2.1, ?_⟩
  have e : box_can st = ⟨(box_can st).tm, (box_can st).own, 1037⟩ := by kernel_rfl
  rw [e, h2, h3]
  rfl
noncomputable def box_cond (u : box_U) (v : box_V) : Bool := runC (box_step u) v
noncomputable def box_g (u : box_U) (v : box_V) : Nat × box_V := runG (box_step u) v
theorem box_hg : ∀ (u : box_U) (v : box_V), box_cond u v = true → loopN (box_step u) ((fun u v => runF (box_step u) v) u v) v = some (box_g u v) := by
  exact fun u v h => run_hg h
noncomputable def box_m (st : Stt) : Option (Tr (Ex × Stt)) := sumM box_read box_cond box_St box_g [(0, .exit 0)] st
noncomputable def moA_L57 : FuncId → Loops := addL 78 [0, 1, 0, 1, 1, 1, 1] box_m moA_L52
set_option maxRecDepth 100000 in
set_option maxHeartbeats 4000000 in
theorem moA_L57_ok : LoopsOK Try.prog moA_L57 :=
  loop_sumF (body := (bodyOf Try.prog 78)) (c := (loopOf (bodyOf Try.prog 78) [1, 1, 1, 1, 0, 1, 0])) (kinds := [.exit 0]) (allow := [(0, .exit 0)]) (St := box_St) (step := box_step) (W := [0, 1, 7, 8, 9, 10, 11, 12, 13, 14, 15, 16, 17, 18, 19, 20, 21, 22, 23, 24, 25, 26, 27, 28, 29, 30, 31, 32, 33, 34, 35, 36, 40, 41, 42, 43, 44, 45, 46, 47, 48, 49, 50, 51, 52, 53, 54, 55, 56, 57, 58, 59, 60, 61, 62, 63, 64, 65, 66, 67, 68]) (As := []) (ks := [31, 19, 2, 1, 0]) (dd := [0]) (nx := 1037) (n := 100000) (g := box_g) (cond := box_cond) (fuel := (fun u v => runF (box_step u) v)) (read := box_read) (by kernel_rfl) (moA_S56_ok) (moA_L52_ok) 7 ⟨Try.f78, by kernel_rfl, by kernel_rfl⟩ (by kernel_rfl) (by kernel_rfl) (by kernel_rfl) box_step_eq box_hg box_read_ok
end Go.Proofs.Ytacgchandefjgaa

namespace Go.Proofs.Ytacgchandefjgaa
open Go
noncomputable def boxB (R : Rg) : Bool := valGB R && decide (0 < R.length)
noncomputable def bLX (R : Rg) : Int := bif boxB R then loX R else 0
noncomputable def bLY (R : Rg) : Int := bif boxB R then loY R else 0
noncomputable def bHX (R : Rg) : Int := bif boxB R then hiX R else 0
noncomputable def bHY (R : Rg) : Int := bif boxB R then hiY R else 0
noncomputable def fitB (R : Rg) (k : Int) : Bool := @decide (fitsG R k) (Classical.propDecidable _)
def rchB (k : Int) : Bool := decide (0 ≤ k) && decide (k ≤ 64)
noncomputable def chkE (R : Rg) (k : Int) : Int := bif rchB k && valGB R then (bif fitB R k then 0 else 8) else 1
theorem box_run {R : Rg} (h : valG R) (a b : Int) : box_cond (false, R, (R.length : Int), a, b, 0, 0, 0, 0) (0, -4096, 4096) = true ∧ box_g (false, R, (R.length : Int), a, b, 0, 0, 0, 0) (0, -4096, 4096) = (0, ((R.length : Int), hiX R, loX R)) := by
  have hn := ng_len h (by omega)
  have R1 := run_steps (step := box_step (false, R, (R.length : Int), a, b, 0, 0, 0, 0)) (St := fun j => ((j : Int), hiX (R.take j), loX (R.take j))) (n := R.length) (t := (0, ((R.length : Int), hiX R, loX R))) (by
    simp only [box_step, Tr.val, Int.lt_irrefl, decide_false, cond_false, List.take_length]) R.length 0 (Nat.zero_add _) (fun j _ hj => by
    have g := Ng.rows h _ (List.getElem_mem hj)
    obtain ⟨_, _, _, hp⟩ := row_ends g
    have hl := row_len g
    have hv := rowOk_val g
    have z := good_in hv (j := R[j].2.length - 1) (by omega)
    have e0 : el_ii R[j].2 (0 : Int) = R[j].2[0] := el_r (i := 0) hp
    have e1 : IntKind.wrap .i64 ((R[j].2.length : Int) - (1 : Int)) = ((R[j].2.length - 1 : Nat) : Int) := by rw [wid (by omega) (by omega)]; omega
    have e2 := el_r (L := R[j].2) (i := R[j].2.length - 1) (by omega)
    have w1 : IntKind.wrap .i64 ((R[j].2[R[j].2.length - 1]'(by omega)).2 - (1 : Int)) = (R[j].2[R[j].2.length - 1]'(by omega)).2 - 1 := wid (by omega) (by omega)
    have c0 : decide ((0 : Int) < (R[j].2.length : Int)) = true := decide_eq_true (by omega)
    have c1 : decide (((R[j].2.length - 1 : Nat) : Int) < (R[j].2.length : Int)) = true := decide_eq_true (by omega)
    have c3 : decide ((0 : Int) ≤ (0 : Int)) = true := rfl
    have h1 : hdX R[j] = R[j].2[0].1 := by unfold hdX; rw [List.getD, List.getElem?_eq_getElem hp]; rfl
    have h2 : tlX R[j] = (R[j].2[R[j].2.length - 1]'(by omega)).2 - 1 := by unfold tlX lastR; rw [List.getD, List.getElem?_eq_getElem (by omega)]; rfl
    rw [loX_take hj, hiX_take hj, h1, h2]
    simp only [box_step, Tr.val, lt_t hj, nn_t, el_g hj, e0, e1, e2, w1, c0, c1, c3, ite_min, ite_max, wi1 hj (show (R.length : Int) ≤ 9223372036854775806 by omega), Bool.and_self, cond_true])
  exact R1
set_option maxRecDepth 100000 in
theorem boxc_tree (R : (Ty.list (.prod (.int .i64) (.list (.prod (.int .i64) (.int .i64))))).den) : evalF Try.prog moA_S56 (opens []) moA_L57 9 78 [.ag [.d false false (.prod (.int .i64) (.list (.prod (.int .i64) (.int .i64)))) R]] = .br (((szG R) && (bif bif !valGB R then true else (↑(List.length R) : Int) == (0 : Int) then true else ((decide ((0 : Int) ≤ (0 : Int)) && decide ((0 : Int) < (↑(List.length R) : Int))) && ((decide ((0 : Int) ≤ IntKind.wrap .i64 ((↑(List.length R) : Int) - (1 : Int))) && decide (IntKind.wrap .i64 ((↑(List.length R) : Int) - (1 : Int)) < (↑(List.length R) : Int))) && ((box_cond (false, R, (↑(List.length R) : Int), Prod.fst (el_ilii R (IntKind.wrap .i64 ((↑(List.length R) : Int) - (1 : Int)))), Prod.fst (el_ilii R (0 : Int)), (0 : Int), (0 : Int), (0 : Int), (0 : Int)) ((0 : Int), (-4096 : Int), (4096 : Int))) && (Nat.beq (Prod.fst (box_g (false, R, (↑(List.length R) : Int), Prod.fst (el_ilii R (IntKind.wrap .i64 ((↑(List.length R) : Int) - (1 : Int)))), Prod.fst (el_ilii R (0 : Int)), (0 : Int), (0 : Int), (0 : Int), (0 : Int)) ((0 : Int), (-4096 : Int), (4096 : Int)))) (0 : Nat)))))))) (.ret (.tup [(true, [.v false (.int .i64 (bif bif !valGB R then true else (↑(List.length R) : Int) == (0 : Int) then (0 : Int) else Prod.snd (Prod.snd (Prod.snd (box_g (false, R, (↑(List.length R) : Int), Prod.fst (el_ilii R (IntKind.wrap .i64 ((↑(List.length R) : Int) - (1 : Int)))), Prod.fst (el_ilii R (0 : Int)), (0 : Int), (0 : Int), (0 : Int), (0 : Int)) ((0 : Int), (-4096 : Int), (4096 : Int))))))), .v false (.int .i64 (bif bif !valGB R then true else (↑(List.length R) : Int) == (0 : Int) then (0 : Int) else Prod.fst (el_ilii R (0 : Int))))]), (true, [.v false (.int .i64 (bif bif !valGB R then true else (↑(List.length R) : Int) == (0 : Int) then (0 : Int) else Prod.fst (Prod.snd (Prod.snd (box_g (false, R, (↑(List.length R) : Int), Prod.fst (el_ilii R (IntKind.wrap .i64 ((↑(List.length R) : Int) - (1 : Int)))), Prod.fst (el_ilii R (0 : Int)), (0 : Int), (0 : Int), (0 : Int), (0 : Int)) ((0 : Int), (-4096 : Int), (4096 : Int))))))), .v false (.int .i64 (bif bif !valGB R then true else (↑(List.length R) : Int) == (0 : Int) then (0 : Int) else Prod.fst (el_ilii R (IntKind.wrap .i64 ((↑(List.length R) : Int) - (1 : Int))))))]), (false, [.v false (.bool (bif bif !valGB R then true else (↑(List.length R) : Int) == (0 : Int) then false else true))])])) (.bad 116) := by kernel_rfl
theorem boxc_val (R : (Ty.list (.prod (.int .i64) (.list (.prod (.int .i64) (.int .i64))))).den) (hc : (szG R) = true) : (.br (((szG R) && (bif bif !valGB R then true else (↑(List.length R) : Int) == (0 : Int) then true else ((decide ((0 : Int) ≤ (0 : Int)) && decide ((0 : Int) < (↑(List.length R) : Int))) && ((decide ((0 : Int) ≤ IntKind.wrap .i64 ((↑(List.length R) : Int) - (1 : Int))) && decide (IntKind.wrap .i64 ((↑(List.length R) : Int) - (1 : Int)) < (↑(List.length R) : Int))) && ((box_cond (false, R, (↑(List.length R) : Int), Prod.fst (el_ilii R (IntKind.wrap .i64 ((↑(List.length R) : Int) - (1 : Int)))), Prod.fst (el_ilii R (0 : Int)), (0 : Int), (0 : Int), (0 : Int), (0 : Int)) ((0 : Int), (-4096 : Int), (4096 : Int))) && (Nat.beq (Prod.fst (box_g (false, R, (↑(List.length R) : Int), Prod.fst (el_ilii R (IntKind.wrap .i64 ((↑(List.length R) : Int) - (1 : Int)))), Prod.fst (el_ilii R (0 : Int)), (0 : Int), (0 : Int), (0 : Int), (0 : Int)) ((0 : Int), (-4096 : Int), (4096 : Int)))) (0 : Nat)))))))) (.ret (.tup [(true, [.v false (.int .i64 (bif bif !valGB R then true else (↑(List.length R) : Int) == (0 : Int) then (0 : Int) else Prod.snd (Prod.snd (Prod.snd (box_g (false, R, (↑(List.length R) : Int), Prod.fst (el_ilii R (IntKind.wrap .i64 ((↑(List.length R) : Int) - (1 : Int)))), Prod.fst (el_ilii R (0 : Int)), (0 : Int), (0 : Int), (0 : Int), (0 : Int)) ((0 : Int), (-4096 : Int), (4096 : Int))))))), .v false (.int .i64 (bif bif !valGB R then true else (↑(List.length R) : Int) == (0 : Int) then (0 : Int) else Prod.fst (el_ilii R (0 : Int))))]), (true, [.v false (.int .i64 (bif bif !valGB R then true else (↑(List.length R) : Int) == (0 : Int) then (0 : Int) else Prod.fst (Prod.snd (Prod.snd (box_g (false, R, (↑(List.length R) : Int), Prod.fst (el_ilii R (IntKind.wrap .i64 ((↑(List.length R) : Int) - (1 : Int)))), Prod.fst (el_ilii R (0 : Int)), (0 : Int), (0 : Int), (0 : Int), (0 : Int)) ((0 : Int), (-4096 : Int), (4096 : Int))))))), .v false (.int .i64 (bif bif !valGB R then true else (↑(List.length R) : Int) == (0 : Int) then (0 : Int) else Prod.fst (el_ilii R (IntKind.wrap .i64 ((↑(List.length R) : Int) - (1 : Int))))))]), (false, [.v false (.bool (bif bif !valGB R then true else (↑(List.length R) : Int) == (0 : Int) then false else true))])])) (.bad 116) : Tr AV).val = some (.tup [(true, [.v false (.int .i64 (bLX R)), .v false (.int .i64 (bLY R))]), (true, [.v false (.int .i64 (bHX R)), .v false (.int .i64 (bHY R))]), (false, [.v false (.bool (boxB R))])]) := by
  obtain ⟨K, rfl⟩ : ∃ K : Rg, K = R := ⟨R, rfl⟩
  have hs : szG K = true := hc
  unfold bLX bLY bHX bHY boxB
  show cond _ _ _ = _
  cases hv : valGB K
  · simp only [hs, Bool.not_false, Bool.and_self, Bool.false_and, cond_true, cond_false, Tr.val]
  · have h := valGB_iff.1 hv
    have hn := sz_len hs
    by_cases h0 : K.length = 0
    · have b0 : ((K.length : Int) == (0 : Int)) = true := by rw [h0]; rfl
      have d0 : decide (0 < K.length) = false := decide_eq_false (by omega)
      simp only [hs, b0, d0, Bool.not_true, Bool.and_self, Bool.and_false, cond_true, cond_false, Tr.val]
    · have hp : 0 < K.length := by omega
      have b0 : ((K.length : Int) == (0 : Int)) = false := by rw [beq_eq_false_iff_ne]; omega
      have d0 : decide (0 < K.length) = true := decide_eq_true hp
      have e0 : el_ilii K (0 : Int) = K[0] := el_g (i := 0) hp
      have e1 : IntKind.wrap .i64 ((K.length : Int) - (1 : Int)) = ((K.length - 1 : Nat) : Int) := by rw [wid (by omega) (by omega)]; omega
      have e2 := el_g (R := K) (i := K.length - 1) (by omega)
      have c0 : decide ((0 : Int) < (K.length : Int)) = true := decide_eq_true (by omega)
      have c1 : decide (((K.length - 1 : Nat) : Int) < (K.length : Int)) = true := decide_eq_true (by omega)
      have c2 : decide ((0 : Int) ≤ ((K.length - 1 : Nat) : Int)) = true := decide_eq_true (by omega)
      have c3 : decide ((0 : Int) ≤ (0 : Int)) = true := rfl
      have h1 : loY K = K[0].1 := by unfold loY; rw [List.getD, List.getElem?_eq_getElem hp]; rfl
      have h2 : hiY K = (K[K.length - 1]'(by omega)).1 := by unfold hiY; rw [List.getD, List.getElem?_eq_getElem (by omega)]; rfl
      obtain ⟨v1, v2⟩ := box_run h (K[K.length - 1]'(by omega)).1 K[0].1
      rw [h1, h2]
      simp only [hs, b0, d0, e0, e1, e2, c0, c1, c2, c3, v1, v2, Nat.beq, Bool.not_true, Bool.and_self, cond_true, cond_false, Tr.val]
noncomputable def boxc_g : List AV → Option (Tr AV)
  | [.ag [.d _ _ (.prod (.int .i64) (.list (.prod (.int .i64) (.int .i64)))) R]] => some (.br (szG R) (.ret (.tup [(true, [.v false (.int .i64 (bLX R)), .v false (.int .i64 (bLY R))]), (true, [.v false (.int .i64 (bHX R)), .v false (.int .i64 (bHY R))]), (false, [.v false (.bool (boxB R))])])) (.bad 900))
  | _ => none
set_option maxHeartbeats 4000000 in
theorem boxc_ok : FunOK Try.prog 78 boxc_g := by
  refine fun_ok (by kernel_rfl) (moA_S56_ok) (moA_L57_ok) 9 (On := (opens [])) (fun args t h => ?_)
  unfold boxc_g at h
  split at h
  · rename_i _ _ R
    simp only [Option.some.injEq] at h
    subst h
    refine ⟨[.ag [.d false false (.prod (.int .i64) (.list (.prod (.int .i64) (.int .i64)))) R]], rfl, fun fr w us h => h, fun r hr => ?_⟩
    obtain ⟨hc, hr⟩ := br_bad hr
    simp only [Tr.val, Option.some.injEq] at hr
    subst hr
    rw [boxc_tree]
    exact boxc_val R hc
  · cases h
noncomputable def moB_S51 : Sums := addS 78 boxc_g moA_S56
theorem moB_S51_ok : SumOK Try.prog moB_S51 := addS_ok (boxc_ok) (moA_S56_ok)
set_option maxRecDepth 100000 in
theorem chkc_tree (R : (Ty.list (.prod (.int .i64) (.list (.prod (.int .i64) (.int .i64))))).den) (k : Int) : evalF Try.prog moB_S51 (opens []) moA_L57 9 45 [.ag [.d false false (.prod (.int .i64) (.list (.prod (.int .i64) (.int .i64)))) R], .one (.v false (.int .i64 k))] = .br ((bif !bif decide (k ≥ (0 : Int)) then decide (k ≤ (64 : Int)) else false then true else ((szG R) && (bif !valGB R then true else (szG R))))) (.ret (.one (.v false (.int .i64 (bif !bif decide (k ≥ (0 : Int)) then decide (k ≤ (64 : Int)) else false then (1 : Int) else bif !valGB R then (1 : Int) else bif bif boxB R then bif decide (IntKind.wrap .i64 ((if bLY R < bLX R then bLY R else bLX R) - k) < (-4096 : Int)) then true else decide (IntKind.wrap .i64 ((if bHY R > bHX R then bHY R else bHX R) + k) ≥ (4096 : Int)) else false then (8 : Int) else (0 : Int)))))) (.bad 116) := by kernel_rfl
theorem chkc_val (R : (Ty.list (.prod (.int .i64) (.list (.prod (.int .i64) (.int .i64))))).den) (k : Int) (hc : (szG R) = true) : (.br ((bif !bif decide (k ≥ (0 : Int)) then decide (k ≤ (64 : Int)) else false then true else ((szG R) && (bif !valGB R then true else (szG R))))) (.ret (.one (.v false (.int .i64 (bif !bif decide (k ≥ (0 : Int)) then decide (k ≤ (64 : Int)) else false then (1 : Int) else bif !valGB R then (1 : Int) else bif bif boxB R then bif decide (IntKind.wrap .i64 ((if bLY R < bLX R then bLY R else bLX R) - k) < (-4096 : Int)) then true else decide (IntKind.wrap .i64 ((if bHY R > bHX R then bHY R else bHX R) + k) ≥ (4096 : Int)) else false then (8 : Int) else (0 : Int)))))) (.bad 116) : Tr AV).val = some (.one (.v false (.int .i64 (chkE R k)))) := by
  obtain ⟨K, rfl⟩ : ∃ K : Rg, K = R := ⟨R, rfl⟩
  have hs : szG K = true := hc
  unfold chkE rchB
  show cond _ _ _ = _
  by_cases k0 : 0 ≤ k
  · have d0 : decide (k ≥ (0 : Int)) = true := decide_eq_true k0
    have d0' : decide (0 ≤ k) = true := decide_eq_true k0
    by_cases k1 : k ≤ 64
    · have d1 : decide (k ≤ (64 : Int)) = true := decide_eq_true k1
      cases hv : valGB K
      · simp only [hs, d0, d0', d1, Bool.not_false, Bool.not_true, Bool.and_self, Bool.and_false, Bool.cond_self, cond_true, cond_false, Tr.val]
      · have h := valGB_iff.1 hv
        by_cases h0 : 0 < K.length
        · have bb : boxB K = true := by unfold boxB; rw [hv, decide_eq_true h0]; rfl
          have e1 : bLX K = loX K := by unfold bLX; rw [bb]; rfl
          have e2 : bLY K = loY K := by unfold bLY; rw [bb]; rfl
          have e3 : bHX K = hiX K := by unfold bHX; rw [bb]; rfl
          have e4 : bHY K = hiY K := by unfold bHY; rw [bb]; rfl
          obtain ⟨_, ⟨y1, q1⟩, ⟨y2, q2⟩, ⟨x1, q3⟩, ⟨x2, q4⟩⟩ := box_ok h h0
          have i1 := mem_in h q1
          have i2 := mem_in h q2
          have i3 := mem_in h q3
          have i4 := mem_in h q4
          have w1 : IntKind.wrap .i64 (min (loX K) (loY K) - k) = min (loX K) (loY K) - k := wid (by omega) (by omega)
          have w2 : IntKind.wrap .i64 (max (hiX K) (hiY K) + k) = max (hiX K) (hiY K) + k := wid (by omega) (by omega)
          have ff : fitB K k = !(bif decide (min (loX K) (loY K) - k < (-4096 : Int)) then true else decide (max (hiX K) (hiY K) + k ≥ (4096 : Int))) := by
            rw [Bool.eq_iff_iff]
            have : fitB K k = true ↔ fitsG K k := by unfold fitB; simp
            rw [this, fits_iff h h0]
            simp [Bool.cond_eq_ite]
          simp only [hs, d0, d0', d1, bb, e1, e2, e3, e4, ite_min, ite_max, w1, w2, ff, Bool.not_false, Bool.not_true, Bool.and_self, Bool.cond_self, cond_true, cond_false]
          cases (bif decide (min (loX K) (loY K) - k < (-4096 : Int)) then true else decide (max (hiX K) (hiY K) + k ≥ (4096 : Int))) <;> rfl
        · have bb : boxB K = false := by unfold boxB; rw [decide_eq_false h0, Bool.and_false]
          have e : K = [] := List.length_eq_zero_iff.1 (by omega)
          have ff : fitB K k = true := by
            have : fitB K k = true ↔ fitsG K k := by unfold fitB; simp
            rw [this, e]
            intro x y hx; cases hx
          simp only [hs, d0, d0', d1, bb, ff, Bool.not_false, Bool.not_true, Bool.and_self, Bool.cond_self, cond_true, cond_false]
          rfl
    · have d1 : decide (k ≤ (64 : Int)) = false := decide_eq_false k1
      simp only [d0, d0', d1, Bool.not_false, Bool.and_false, Bool.false_and, cond_true, cond_false]
      rfl
  · have d0 : decide (k ≥ (0 : Int)) = false := decide_eq_false k0
    have d0' : decide (0 ≤ k) = false := decide_eq_false k0
    simp only [d0, d0', Bool.not_false, Bool.false_and, cond_true, cond_false]
    rfl
noncomputable def chkc_g : List AV → Option (Tr AV)
  | [.ag [.d _ _ (.prod (.int .i64) (.list (.prod (.int .i64) (.int .i64)))) R], .one (.v _ (.int .i64 k))] => some (.br (szG R) (.ret (.one (.v false (.int .i64 (chkE R k))))) (.bad 900))
  | _ => none
set_option maxHeartbeats 4000000 in
theorem chkc_ok : FunOK Try.prog 45 chkc_g := by
  refine fun_ok (by kernel_rfl) (moB_S51_ok) (moA_L57_ok) 9 (On := (opens [])) (fun args t h => ?_)
  unfold chkc_g at h
  split at h
  · rename_i _ _ R _ k
    simp only [Option.some.injEq] at h
    subst h
    refine ⟨[.ag [.d false false (.prod (.int .i64) (.list (.prod (.int .i64) (.int .i64)))) R], .one (.v false (.int .i64 k))], rfl, fun fr w us h => h, fun r hr => ?_⟩
    obtain ⟨hc, hr⟩ := br_bad hr
    simp only [Tr.val, Option.some.injEq] at hr
    subst hr
    rw [chkc_tree]
    exact chkc_val R k hc
  · cases h
noncomputable def moB_S52 : Sums := addS 45 chkc_g moB_S51
theorem moB_S52_ok : SumOK Try.prog moB_S52 := addS_ok (chkc_ok) (moB_S51_ok)
end Go.Proofs.Ytacgchandefjgaa
