/-
  Layer 31: SupportCells.
-/
import Derived.Test.YtacgchandefjgaaProg
import Derived.Test.YtacgchandefjgaaFvX
import Derived.Test.YtacgchandefjgaaFvZ
import Derived.Test.YtacgchandefjgaaAut
import Derived.Test.YtacgchandefjgaaRd
import Derived.Test.YtacgchandefjgaaPl
import Derived.Test.YtacgchandefjgaaScn
import Derived.Test.YtacgchandefjgaaMor
import Derived.Test.YtacgchandefjgaaRgB
import Derived.Test.YtacgchandefjgaaRgC
import Derived.Test.YtacgchandefjgaaRgD
import Derived.Test.YtacgchandefjgaaMoB
import Derived.Test.YtacgchandefjgaaMoC
import Derived.Test.YtacgchandefjgaaMoD
import Derived.Test.YtacgchandefjgaaMoH
import Derived.Test.YtacgchandefjgaaRgJ
import Derived.Test.YtacgchandefjgaaSuB
import Derived.Test.YtacgchandefjgaaSuW
namespace Go.Proofs.Ytacgchandefjgaa
open Go
noncomputable def suC_S51 : Sums := addS 28 gTrue suB_S57
theorem suC_S51_ok : SumOK Try.prog suC_S51 := addS_ok (gTrue_ok (by kernel_rfl) (suW_S69_ok) (L0_ok _) aw28_tree) (suB_S57_ok)
abbrev sc2_U : Type := Bool × Int × (Ty.list (.prod (.int .i64) (.int .i64))).den × Int × Int × (Ty.list (.prod (.int .i64) (.list (.prod (.int .i64) (.int .i64))))).den × (Ty.list (.prod (.int .i64) (.list (.prod (.int .i64) (.int .i64))))).den × (Ty.list (.prod (.int .i64) (.list (.prod (.int .i64) (.int .i64))))).den
noncomputable def sc2_St (u : sc2_U) (v : va_V) : Stt := ⟨[.one .junk, .one .junk, .one .junk, .one (.p 0 0), .one (.p 1 0), .one .junk, .one (.v false (.bool u.1)), .one (.v false (.int .i64 u.2.1)), .one (.p 22 0), .one .junk, .one (.d false false (.prod (.int .i64) (.int .i64)) u.2.2.1), .one (.v false (.int .i64 u.2.2.2.1)), .one (.v false (.bool v.1)), .one (.v false (.int .i64 u.2.2.2.2.1)), .one (.v false (.int .i64 v.2)), .one .junk, .one .junk, .one .junk, .one .junk, .one .junk, .one .junk, .one .junk, .one .junk, .one .junk, .one .junk, .one .junk, .one .junk, .one .junk, .one .junk, .one .junk, .one .junk, .one .junk, .one .junk, .one .junk, .one .junk, .one .junk, .one .junk, .one .junk, .one .junk, .one .junk, .one .junk, .one .junk, .one .junk, .one .junk, .one .junk, .one .junk, .one .junk, .one .junk, .one .junk, .one .junk, .one .junk, .one .junk, .one .junk, .one .junk, .one .junk, .one .junk, .one .junk, .one .junk, .one .junk, .one .junk, .one .junk, .one .junk, .one .junk, .one .junk, .one .junk, .one .junk, .one .junk, .one .junk, .one .junk, .one .junk, .one .junk, .one .junk, .one .junk, .one .junk, .one .junk, .one .junk, .one .junk, .one .junk, .one .junk, .one .junk, .one .junk, .one .junk, .one .junk, .one .junk, .one .junk, .one .junk, .one .junk, .one .junk, .one .junk, .one .junk, .one .junk, .one .junk, .one .junk, .one .junk, .one .junk, .one .junk, .one .junk, .one .junk, .one .junk, .one .junk, .one .junk, .one .junk, .one .junk], [(22, .cells [.d false false (.prod (.int .i64) (.list (.prod (.int .i64) (.int .i64)))) u.2.2.2.2.2.1]), (1, .cells [.d false false (.prod (.int .i64) (.list (.prod (.int .i64) (.int .i64)))) u.2.2.2.2.2.2.1]), (0, .cells [.d false false (.prod (.int .i64) (.list (.prod (.int .i64) (.int .i64)))) u.2.2.2.2.2.2.2])], 3061⟩
noncomputable def sc2_step (u : sc2_U) (v : va_V) : Tr (va_V ⊕ (Nat × va_V)) :=
  match u, v with
  | (_, q1, q2, q3, q5, _, q8, _), (q4, q6) => .br (decide ((0 : Int) ≤ q3) && decide (q3 < (↑(List.length q2) : Int))) (.br (decide (q6 ≤ IntKind.wrap .i64 (Prod.fst (el_ii q2 q3) + q1))) (.br (q4) (.ret (.inl (true, IntKind.wrap .i64 (q6 + (1 : Int))))) (.br (szG q8) (.ret (.inl (valGB q8 && memG q8 q6 q5, IntKind.wrap .i64 (q6 + (1 : Int))))) (.bad 900))) (.ret (.inr (0, (q4, q6))))) (.bad 29)
set_option maxRecDepth 100000 in
set_option maxHeartbeats 4000000 in
theorem sc2_step_eq : ∀ (u : sc2_U) (v : va_V), (evalC Try.prog (evalB Try.prog suC_S51 (opens []) suB_L55 7).1 (evalB Try.prog suC_S51 (opens []) suB_L55 7).2 (opens []) (suB_L55 8) 100000 (0 :: [0, 1, 0, 0, 1, 0, 0, 1, 0, 1, 0, 0, 1, 0, 0, 1, 0, 1, 1, 1, 1, 1, 1]) (loopOf (bodyOf Try.prog 8) [1, 1, 1, 1, 1, 1, 0, 1, 0, 0, 1, 0, 0, 1, 0, 1, 0, 0, 1, 0, 0, 1, 0]) (sc2_St u v) []).bind (finF [0, 1, 2, 5, 9, 15, 16, 17, 18, 19, 20, 21, 22, 23, 24, 25, 26, 27, 28, 29, 30, 31, 32, 33, 34, 35, 36, 37, 38, 39, 40, 41, 42, 43, 44, 45, 46, 47, 48, 49, 50, 51, 52, 53, 54, 55, 56, 57, 58, 59, 60, 61, 62, 63, 64, 65, 66, 67, 68, 69, 70, 71, 72, 73, 74, 75, 76, 77, 78, 79, 80, 81, 82, 83, 84, 85, 86, 87, 88, 89, 90, 91, 92, 93, 94, 95, 96, 97, 98, 99, 100, 101, 102] [] [22, 1, 0] [] 3061) = (sc2_step u v).bind (outA (sc2_St u) [.exit 4]) := by
  rintro ⟨q0, q1, q2, q3, q5, q7, q8, q9⟩ ⟨q4, q6⟩
  kernel_rfl
noncomputable def sc2_rd (b : Bool) (o3 : Option AV) (o4 : Option AV) (o6 : Option AV) (o7 : Option AV) (o8 : Option AV) (o10 : Option AV) (o11 : Option AV) (o12 : Option AV) (o13 : Option AV) (o14 : Option AV) (own : Own) : Option (sc2_U × va_V) := zrT b <| zrO o3 fun za1 => zrA1 za1 fun zc2 => zrP 0 0 zc2 <| zrO o4 fun za3 => zrA1 za3 fun zc4 => zrP 1 0 zc4 <| zrO o6 fun za5 => zrA1 za5 fun zc6 => zrB zc6 fun q0 => zrO o7 fun za7 => zrA1 za7 fun zc8 => zrI .i64 zc8 fun q1 => zrO o8 fun za9 => zrA1 za9 fun zc10 => zrP 22 0 zc10 <| zrO o10 fun za11 => zrA1 za11 fun zc12 => zrD (.prod (.int .i64) (.int .i64)) zc12 fun q2 => zrO o11 fun za13 => zrA1 za13 fun zc14 => zrI .i64 zc14 fun q3 => zrO o12 fun za15 => zrA1 za15 fun zc16 => zrB zc16 fun q4 => zrO o13 fun za17 => zrA1 za17 fun zc18 => zrI .i64 zc18 fun q5 => zrO o14 fun za19 => zrA1 za19 fun zc20 => zrI .i64 zc20 fun q6 => zrL own fun zq21 zw22 => zrKey 22 zq21 fun zk23 => zrC zk23 fun zl24 => zrL zl24 fun zc25 zr26 => zrD (.prod (.int .i64) (.list (.prod (.int .i64) (.int .i64)))) zc25 fun q7 => zrN zr26 <| zrL zw22 fun zq27 zw28 => zrKey 1 zq27 fun zk29 => zrC zk29 fun zl30 => zrL zl30 fun zc31 zr32 => zrD (.prod (.int .i64) (.list (.prod (.int .i64) (.int .i64)))) zc31 fun q8 => zrN zr32 <| zrL zw28 fun zq33 zw34 => zrKey 0 zq33 fun zk35 => zrC zk35 fun zl36 => zrL zl36 fun zc37 zr38 => zrD (.prod (.int .i64) (.list (.prod (.int .i64) (.int .i64)))) zc37 fun q9 => zrN zr38 <| zrN zw34 <| some ((q0, q1, q2, q3, q5, q7, q8, q9), (q4, q6))
noncomputable def sc2_can (st : Stt) : Stt := canA [0, 1, 2, 5, 9, 15, 16, 17, 18, 19, 20, 21, 22, 23, 24, 25, 26, 27, 28, 29, 30, 31, 32, 33, 34, 35, 36, 37, 38, 39, 40, 41, 42, 43, 44, 45, 46, 47, 48, 49, 50, 51, 52, 53, 54, 55, 56, 57, 58, 59, 60, 61, 62, 63, 64, 65, 66, 67, 68, 69, 70, 71, 72, 73, 74, 75, 76, 77, 78, 79, 80, 81, 82, 83, 84, 85, 86, 87, 88, 89, 90, 91, 92, 93, 94, 95, 96, 97, 98, 99, 100, 101, 102] [] [22, 1, 0] [] 3061 st
noncomputable def sc2_cok (st : Stt) : Bool := canAok [0, 1, 2, 5, 9, 15, 16, 17, 18, 19, 20, 21, 22, 23, 24, 25, 26, 27, 28, 29, 30, 31, 32, 33, 34, 35, 36, 37, 38, 39, 40, 41, 42, 43, 44, 45, 46, 47, 48, 49, 50, 51, 52, 53, 54, 55, 56, 57, 58, 59, 60, 61, 62, 63, 64, 65, 66, 67, 68, 69, 70, 71, 72, 73, 74, 75, 76, 77, 78, 79, 80, 81, 82, 83, 84, 85, 86, 87, 88, 89, 90, 91, 92, 93, 94, 95, 96, 97, 98, 99, 100, 101, 102] [] [22, 1, 0] [] 3061 st
noncomputable def sc2_read (st : Stt) : Option (sc2_U × va_V) := sc2_rd (sc2_cok st && (staysA [] [22, 1, 0] st.own && juAll [0, 1, 2, 5, 9, 15, 16, 17, 18, 19, 20, 21, 22, 23, 24, 25, 26, 27, 28, 29, 30, 31, 32, 33, 34, 35, 36, 37, 38, 39, 40, 41, 42, 43, 44, 45, 46, 47, 48, 49, 50, 51, 52, 53, 54, 55, 56, 57, 58, 59, 60, 61, 62, 63, 64, 65, 66, 67, 68, 69, 70, 71, 72, 73, 74, 75, 76, 77, 78, 79, 80, 81, 82, 83, 84, 85, 86, 87, 88, 89, 90, 91, 92, 93, 94, 95, 96, 97, 98, 99, 100, 101, 102] (sc2_can st).tm 103)) (sc2_can st).tm[3]? (sc2_can st).tm[4]? (sc2_can st).tm[6]? (sc2_can st).tm[7]? (sc2_can st).tm[8]? (sc2_can st).tm[10]? (sc2_can st).tm[11]? (sc2_can st).tm[12]? (sc2_can st).tm[13]? (sc2_can st).tm[14]? (sc2_can st).own
set_option maxRecDepth 100000 in
set_option maxHeartbeats 4000000 in
theorem sc2_rd_ok {b : Bool} {tm : List AV} {own : Own} {u : sc2_U} {v : va_V} (hj : b = true → juAll [0, 1, 2, 5, 9, 15, 16, 17, 18, 19, 20, 21, 22, 23, 24, 25, 26, 27, 28, 29, 30, 31, 32, 33, 34, 35, 36, 37, 38, 39, 40, 41, 42, 43, 44, 45, 46, 47, 48, 49, 50, 51, 52, 53, 54, 55, 56, 57, 58, 59, 60, 61, 62, 63, 64, 65, 66, 67, 68, 69, 70, 71, 72, 73, 74, 75, 76, 77, 78, 79, 80, 81, 82, 83, 84, 85, 86, 87, 88, 89, 90, 91, 92, 93, 94, 95, 96, 97, 98, 99, 100, 101, 102] tm 103 = true) (h : sc2_rd b tm[3]? tm[4]? tm[6]? tm[7]? tm[8]? tm[10]? tm[11]? tm[12]? tm[13]? tm[14]? own = some (u, v)) : b = true ∧ tm = (sc2_St u v).tm ∧ own = (sc2_St u v).own := by
  unfold sc2_rd at h
  obtain ⟨rfl, h0⟩ := zrT_some h
  obtain ⟨za1, e3, h1⟩ := zrO_some h0
  obtain ⟨zc2, rfl, h2⟩ := zrA1_some h1
  obtain ⟨rfl, h3⟩ := zrP_some h2
  obtain ⟨za3, e4, h4⟩ := zrO_some h3
  obtain ⟨zc4, rfl, h5⟩ := zrA1_some h4
  obtain ⟨rfl, h6⟩ := zrP_some h5
  obtain ⟨za5, e6, h7⟩ := zrO_some h6
  obtain ⟨zc6, rfl, h8⟩ := zrA1_some h7
  obtain ⟨q0, rfl, h9⟩ := zrB_some h8
  obtain ⟨za7, e7, h10⟩ := zrO_some h9
  obtain ⟨zc8, rfl, h11⟩ := zrA1_some h10
  obtain ⟨q1, rfl, h12⟩ := zrI_some h11
  obtain ⟨za9, e8, h13⟩ := zrO_some h12
  obtain ⟨zc10, rfl, h14⟩ := zrA1_some h13
  obtain ⟨rfl, h15⟩ := zrP_some h14
  obtain ⟨za11, e10, h16⟩ := zrO_some h15
  obtain ⟨zc12, rfl, h17⟩ := zrA1_some h16
  obtain ⟨q2, rfl, h18⟩ := zrD_some h17
  obtain ⟨za13, e11, h19⟩ := zrO_some h18
  obtain ⟨zc14, rfl, h20⟩ := zrA1_some h19
  obtain ⟨q3, rfl, h21⟩ := zrI_some h20
  obtain ⟨za15, e12, h22⟩ := zrO_some h21
  obtain ⟨zc16, rfl, h23⟩ := zrA1_some h22
  obtain ⟨q4, rfl, h24⟩ := zrB_some h23
  obtain ⟨za17, e13, h25⟩ := zrO_some h24
  obtain ⟨zc18, rfl, h26⟩ := zrA1_some h25
  obtain ⟨q5, rfl, h27⟩ := zrI_some h26
  obtain ⟨za19, e14, h28⟩ := zrO_some h27
  obtain ⟨zc20, rfl, h29⟩ := zrA1_some h28
  obtain ⟨q6, rfl, h30⟩ := zrI_some h29
  obtain ⟨zq21, zw22, rfl, h31⟩ := zrL_some h30
  obtain ⟨zk23, rfl, h32⟩ := zrKey_some h31
  obtain ⟨zl24, rfl, h33⟩ := zrC_some h32
  obtain ⟨zc25, zr26, rfl, h34⟩ := zrL_some h33
  obtain ⟨q7, rfl, h35⟩ := zrD_some h34
  obtain ⟨rfl, h36⟩ := zrN_some h35
  obtain ⟨zq27, zw28, rfl, h37⟩ := zrL_some h36
  obtain ⟨zk29, rfl, h38⟩ := zrKey_some h37
  obtain ⟨zl30, rfl, h39⟩ := zrC_some h38
  obtain ⟨zc31, zr32, rfl, h40⟩ := zrL_some h39
  obtain ⟨q8, rfl, h41⟩ := zrD_some h40
  obtain ⟨rfl, h42⟩ := zrN_some h41
  obtain ⟨zq33, zw34, rfl, h43⟩ := zrL_some h42
  obtain ⟨zk35, rfl, h44⟩ := zrKey_some h43
  obtain ⟨zl36, rfl, h45⟩ := zrC_some h44
  obtain ⟨zc37, zr38, rfl, h46⟩ := zrL_some h45
  obtain ⟨q9, rfl, h47⟩ := zrD_some h46
  obtain ⟨rfl, h48⟩ := zrN_some h47
  obtain ⟨rfl, h49⟩ := zrN_some h48
  have h := Option.some.inj h49
  have hu := congrArg Prod.fst h
  have hv := congrArg Prod.snd h
  dsimp only at hu hv
  subst hu
  subst hv
  exact ⟨rfl, (tm_fill (hj rfl) (Lv := [(3, .one (.p 0 0)), (4, .one (.p 1 0)), (6, .one (.v false (.bool q0))), (7, .one (.v false (.int .i64 q1))), (8, .one (.p 22 0)), (10, .one (.d false false (.prod (.int .i64) (.int .i64)) q2)), (11, .one (.v false (.int .i64 q3))), (12, .one (.v false (.bool q4))), (13, .one (.v false (.int .i64 q5))), (14, .one (.v false (.int .i64 q6)))]) (by kernel_rfl) ⟨e3, e4, e6, e7, e8, e10, e11, e12, e13, e14, trivial⟩).trans (by kernel_rfl), rfl⟩
theorem sc2_read_ok (st : Stt) (u : sc2_U) (v : va_V) (h : sc2_read st = some (u, v)) : sc2_cok st = true ∧ staysA [] [22, 1, 0] st.own = true ∧ sc2_can st = sc2_St u v := by
  obtain ⟨h1, h2, h3⟩ := sc2_rd_ok (fun hb => by rw [Bool.and_eq_true, Bool.and_eq_true] at hb; exact hb.2.2) h
  rw [Bool.and_eq_true, Bool.and_eq_true] at h1
  refine ⟨h1.1, h1.2.1, ?_⟩
  have e : sc2_can st = ⟨(sc2_can st).tm, (sc2_can st).own, 3061⟩ := by kernel_rfl
  rw [e, h2, h3]
  rfl
noncomputable def sc2_cond (u : sc2_U) (v : va_V) : Bool := runC (sc2_step u) v
noncomputable def sc2_g (u : sc2_U) (v : va_V) : Nat × va_V := runG (sc2_step u) v
theorem sc2_hg : ∀ (u : sc2_U) (v : va_V), sc2_cond u v = true → loopN (sc2_step u) ((fun u v => runF (sc2_step u) v) u v) v = some (sc2_g u v) := by
  exact fun u v h => run_hg h
noncomputable def sc2_m (st : Stt) : Option (Tr (Ex × Stt)) := sumM sc2_read sc2_cond sc2_St sc2_g [(0, .exit 4)] st
noncomputable def suC_L52 : FuncId → Loops := addL 8 [0, 1, 0, 0, 1, 0, 0, 1, 0, 1, 0, 0, 1, 0, 0, 1, 0, 1, 1, 1, 1, 1, 1] sc2_m suB_L55
set_option maxRecDepth 100000 in
set_option maxHeartbeats 4000000 in
theorem suC_L52_ok : LoopsOK Try.prog suC_L52 :=
  loop_sumF (body := (bodyOf Try.prog 8)) (c := (loopOf (bodyOf Try.prog 8) [1, 1, 1, 1, 1, 1, 0, 1, 0, 0, 1, 0, 0, 1, 0, 1, 0, 0, 1, 0, 0, 1, 0])) (kinds := [.exit 4]) (allow := [(0, .exit 4)]) (St := sc2_St) (step := sc2_step) (W := [0, 1, 2, 5, 9, 15, 16, 17, 18, 19, 20, 21, 22, 23, 24, 25, 26, 27, 28, 29, 30, 31, 32, 33, 34, 35, 36, 37, 38, 39, 40, 41, 42, 43, 44, 45, 46, 47, 48, 49, 50, 51, 52, 53, 54, 55, 56, 57, 58, 59, 60, 61, 62, 63, 64, 65, 66, 67, 68, 69, 70, 71, 72, 73, 74, 75, 76, 77, 78, 79, 80, 81, 82, 83, 84, 85, 86, 87, 88, 89, 90, 91, 92, 93, 94, 95, 96, 97, 98, 99, 100, 101, 102]) (As := []) (ks := [22, 1, 0]) (dd := []) (nx := 3061) (n := 100000) (g := sc2_g) (cond := sc2_cond) (fuel := (fun u v => runF (sc2_step u) v)) (read := sc2_read) (by kernel_rfl) (suC_S51_ok) (suB_L55_ok) 7 ⟨Try.f8, by kernel_rfl, by kernel_rfl⟩ (by kernel_rfl) (by kernel_rfl) (by kernel_rfl) sc2_step_eq sc2_hg sc2_read_ok
abbrev sc1_U : Type := Bool × Int × (Ty.list (.prod (.int .i64) (.int .i64))).den × Int × (Ty.list (.prod (.int .i64) (.list (.prod (.int .i64) (.int .i64))))).den × (Ty.list (.prod (.int .i64) (.list (.prod (.int .i64) (.int .i64))))).den × (Ty.list (.prod (.int .i64) (.list (.prod (.int .i64) (.int .i64))))).den
noncomputable def sc1_St (u : sc1_U) (v : va_V) : Stt := ⟨[.one .junk, .one .junk, .one .junk, .one (.p 0 0), .one (.p 1 0), .one .junk, .one (.v false (.bool u.1)), .one (.v false (.int .i64 u.2.1)), .one (.p 22 0), .one .junk, .one (.d false false (.prod (.int .i64) (.int .i64)) u.2.2.1), .one (.v false (.int .i64 u.2.2.2.1)), .one (.v false (.bool v.1)), .one (.v false (.int .i64 v.2)), .one .junk, .one .junk, .one .junk, .one .junk, .one .junk, .one .junk, .one .junk, .one .junk, .one .junk, .one .junk, .one .junk, .one .junk, .one .junk, .one .junk, .one .junk, .one .junk, .one .junk, .one .junk, .one .junk, .one .junk, .one .junk, .one .junk, .one .junk, .one .junk, .one .junk, .one .junk, .one .junk, .one .junk, .one .junk, .one .junk, .one .junk, .one .junk, .one .junk, .one .junk, .one .junk, .one .junk, .one .junk, .one .junk, .one .junk, .one .junk, .one .junk, .one .junk, .one .junk, .one .junk, .one .junk, .one .junk, .one .junk, .one .junk, .one .junk, .one .junk, .one .junk, .one .junk, .one .junk, .one .junk, .one .junk, .one .junk, .one .junk, .one .junk, .one .junk, .one .junk, .one .junk, .one .junk, .one .junk, .one .junk, .one .junk, .one .junk, .one .junk, .one .junk, .one .junk, .one .junk, .one .junk, .one .junk, .one .junk, .one .junk, .one .junk, .one .junk, .one .junk, .one .junk, .one .junk, .one .junk, .one .junk, .one .junk, .one .junk, .one .junk, .one .junk, .one .junk, .one .junk, .one .junk, .one .junk], [(22, .cells [.d false false (.prod (.int .i64) (.list (.prod (.int .i64) (.int .i64)))) u.2.2.2.2.1]), (1, .cells [.d false false (.prod (.int .i64) (.list (.prod (.int .i64) (.int .i64)))) u.2.2.2.2.2.1]), (0, .cells [.d false false (.prod (.int .i64) (.list (.prod (.int .i64) (.int .i64)))) u.2.2.2.2.2.2])], 2044⟩
noncomputable def sc1_step (u : sc1_U) (v : va_V) : Tr (va_V ⊕ (Nat × va_V)) :=
  match u, v with
  | (q0, q1, q2, q3, q6, q7, q8), (q4, q5) => .br (decide ((0 : Int) ≤ q3) && decide (q3 < (↑(List.length q2) : Int))) (.br (decide (q5 ≤ IntKind.wrap .i64 (Prod.snd (el_ii q2 q3) + q1))) (.br (decide ((0 : Int) ≤ q3) && decide (q3 < (↑(List.length q2) : Int))) (.br (sc2_cond (q0, q1, q2, q3, q5, q6, q7, q8) (q4, IntKind.wrap .i64 (Prod.fst (el_ii q2 q3) - q1))) (.br (Nat.beq (Prod.fst (sc2_g (q0, q1, q2, q3, q5, q6, q7, q8) (q4, IntKind.wrap .i64 (Prod.fst (el_ii q2 q3) - q1)))) (0 : Nat)) (.ret (.inl (Prod.fst (Prod.snd (sc2_g (q0, q1, q2, q3, q5, q6, q7, q8) (q4, IntKind.wrap .i64 (Prod.fst (el_ii q2 q3) - q1)))), IntKind.wrap .i64 (q5 + (1 : Int))))) (.bad 902)) (.bad 901)) (.bad 29)) (.ret (.inr (0, (q4, q5))))) (.bad 29)
set_option maxRecDepth 100000 in
set_option maxHeartbeats 4000000 in
theorem sc1_step_eq : ∀ (u : sc1_U) (v : va_V), (evalC Try.prog (evalB Try.prog suC_S51 (opens []) suC_L52 7).1 (evalB Try.prog suC_S51 (opens []) suC_L52 7).2 (opens []) (suC_L52 8) 100000 (0 :: [0, 1, 0, 1, 0, 0, 1, 0, 0, 1, 0, 1, 1, 1, 1, 1, 1]) (loopOf (bodyOf Try.prog 8) [1, 1, 1, 1, 1, 1, 0, 1, 0, 0, 1, 0, 0, 1, 0, 1, 0]) (sc1_St u v) []).bind (finF [0, 1, 2, 5, 9, 14, 15, 16, 17, 18, 19, 20, 21, 22, 23, 24, 25, 26, 27, 28, 29, 30, 31, 32, 33, 34, 35, 36, 37, 38, 39, 40, 41, 42, 43, 44, 45, 46, 47, 48, 49, 50, 51, 52, 53, 54, 55, 56, 57, 58, 59, 60, 61, 62, 63, 64, 65, 66, 67, 68, 69, 70, 71, 72, 73, 74, 75, 76, 77, 78, 79, 80, 81, 82, 83, 84, 85, 86, 87, 88, 89, 90, 91, 92, 93, 94, 95, 96, 97, 98, 99, 100, 101, 102] [] [22, 1, 0] [] 2044) = (sc1_step u v).bind (outA (sc1_St u) [.exit 2]) := by
  rintro ⟨q0, q1, q2, q3, q6, q7, q8⟩ ⟨q4, q5⟩
  kernel_rfl
noncomputable def sc1_rd (b : Bool) (o3 : Option AV) (o4 : Option AV) (o6 : Option AV) (o7 : Option AV) (o8 : Option AV) (o10 : Option AV) (o11 : Option AV) (o12 : Option AV) (o13 : Option AV) (own : Own) : Option (sc1_U × va_V) := zrT b <| zrO o3 fun za1 => zrA1 za1 fun zc2 => zrP 0 0 zc2 <| zrO o4 fun za3 => zrA1 za3 fun zc4 => zrP 1 0 zc4 <| zrO o6 fun za5 => zrA1 za5 fun zc6 => zrB zc6 fun q0 => zrO o7 fun za7 => zrA1 za7 fun zc8 => zrI .i64 zc8 fun q1 => zrO o8 fun za9 => zrA1 za9 fun zc10 => zrP 22 0 zc10 <| zrO o10 fun za11 => zrA1 za11 fun zc12 => zrD (.prod (.int .i64) (.int .i64)) zc12 fun q2 => zrO o11 fun za13 => zrA1 za13 fun zc14 => zrI .i64 zc14 fun q3 => zrO o12 fun za15 => zrA1 za15 fun zc16 => zrB zc16 fun q4 => zrO o13 fun za17 => zrA1 za17 fun zc18 => zrI .i64 zc18 fun q5 => zrL own fun zq19 zw20 => zrKey 22 zq19 fun zk21 => zrC zk21 fun zl22 => zrL zl22 fun zc23 zr24 => zrD (.prod (.int .i64) (.list (.prod (.int .i64) (.int .i64)))) zc23 fun q6 => zrN zr24 <| zrL zw20 fun zq25 zw26 => zrKey 1 zq25 fun zk27 => zrC zk27 fun zl28 => zrL zl28 fun zc29 zr30 => zrD (.prod (.int .i64) (.list (.prod (.int .i64) (.int .i64)))) zc29 fun q7 => zrN zr30 <| zrL zw26 fun zq31 zw32 => zrKey 0 zq31 fun zk33 => zrC zk33 fun zl34 => zrL zl34 fun zc35 zr36 => zrD (.prod (.int .i64) (.list (.prod (.int .i64) (.int .i64)))) zc35 fun q8 => zrN zr36 <| zrN zw32 <| some ((q0, q1, q2, q3, q6, q7, q8), (q4, q5))
noncomputable def sc1_can (st : Stt) : Stt := canA [0, 1, 2, 5, 9, 14, 15, 16, 17, 18, 19, 20, 21, 22, 23, 24, 25, 26, 27, 28, 29, 30, 31, 32, 33, 34, 35, 36, 37, 38, 39, 40, 41, 42, 43, 44, 45, 46, 47, 48, 49, 50, 51, 52, 53, 54, 55, 56, 57, 58, 59, 60, 61, 62, 63, 64, 65, 66, 67, 68, 69, 70, 71, 72, 73, 74, 75, 76, 77, 78, 79, 80, 81, 82, 83, 84, 85, 86, 87, 88, 89, 90, 91, 92, 93, 94, 95, 96, 97, 98, 99, 100, 101, 102] [] [22, 1, 0] [] 2044 st
noncomputable def sc1_cok (st : Stt) : Bool := canAok [0, 1, 2, 5, 9, 14, 15, 16, 17, 18, 19, 20, 21, 22, 23, 24, 25, 26, 27, 28, 29, 30, 31, 32, 33, 34, 35, 36, 37, 38, 39, 40, 41, 42, 43, 44, 45, 46, 47, 48, 49, 50, 51, 52, 53, 54, 55, 56, 57, 58, 59, 60, 61, 62, 63, 64, 65, 66, 67, 68, 69, 70, 71, 72, 73, 74, 75, 76, 77, 78, 79, 80, 81, 82, 83, 84, 85, 86, 87, 88, 89, 90, 91, 92, 93, 94, 95, 96, 97, 98, 99, 100, 101, 102] [] [22, 1, 0] [] 2044 st
noncomputable def sc1_read (st : Stt) : Option (sc1_U × va_V) := sc1_rd (sc1_cok st && (staysA [] [22, 1, 0] st.own && juAll [0, 1, 2, 5, 9, 14, 15, 16, 17, 18, 19, 20, 21, 22, 23, 24, 25, 26, 27, 28, 29, 30, 31, 32, 33, 34, 35, 36, 37, 38, 39, 40, 41, 42, 43, 44, 45, 46, 47, 48, 49, 50, 51, 52, 53, 54, 55, 56, 57, 58, 59, 60, 61, 62, 63, 64, 65, 66, 67, 68, 69, 70, 71, 72, 73, 74, 75, 76, 77, 78, 79, 80, 81, 82, 83, 84, 85, 86, 87, 88, 89, 90, 91, 92, 93, 94, 95, 96, 97, 98, 99, 100, 101, 102] (sc1_can st).tm 103)) (sc1_can st).tm[3]? (sc1_can st).tm[4]? (sc1_can st).tm[6]? (sc1_can st).tm[7]? (sc1_can st).tm[8]? (sc1_can st).tm[10]? (sc1_can st).tm[11]? (sc1_can st).tm[12]? (sc1_can st).tm[13]? (sc1_can st).own
set_option maxRecDepth 100000 in
set_option maxHeartbeats 4000000 in
theorem sc1_rd_ok {b : Bool} {tm : List AV} {own : Own} {u : sc1_U} {v : va_V} (hj : b = true → juAll [0, 1, 2, 5, 9, 14, 15, 16, 17, 18, 19, 20, 21, 22, 23, 24, 25, 26, 27, 28, 29, 30, 31, 32, 33, 34, 35, 36, 37, 38, 39, 40, 41, 42, 43, 44, 45, 46, 47, 48, 49, 50, 51, 52, 53, 54, 55, 56, 57, 58, 59, 60, 61, 62, 63, 64, 65, 66, 67, 68, 69, 70, 71, 72, 73, 74, 75, 76, 77, 78, 79, 80, 81, 82, 83, 84, 85, 86, 87, 88, 89, 90, 91, 92, 93, 94, 95, 96, 97, 98, 99, 100, 101, 102] tm 103 = true) (h : sc1_rd b tm[3]? tm[4]? tm[6]? tm[7]? tm[8]? tm[10]? tm[11]? tm[12]? tm[13]? own = some (u, v)) : b = true ∧ tm = (sc1_St u v).tm ∧ own = (sc1_St u v).own := by
  unfold sc1_rd at h
  obtain ⟨rfl, h0⟩ := zrT_some h
  obtain ⟨za1, e3, h1⟩ := zrO_some h0
  obtain ⟨zc2, rfl, h2⟩ := zrA1_some h1
  obtain ⟨rfl, h3⟩ := zrP_some h2
  obtain ⟨za3, e4, h4⟩ := zrO_some h3
  obtain ⟨zc4, rfl, h5⟩ := zrA1_some h4
  obtain ⟨rfl, h6⟩ := zrP_some h5
  obtain ⟨za5, e6, h7⟩ := zrO_some h6
  obtain ⟨zc6, rfl, h8⟩ := zrA1_some h7
  obtain ⟨q0, rfl, h9⟩ := zrB_some h8
  obtain ⟨za7, e7, h10⟩ := zrO_some h9
  obtain ⟨zc8, rfl, h11⟩ := zrA1_some h10
  obtain ⟨q1, rfl, h12⟩ := zrI_some h11
  obtain ⟨za9, e8, h13⟩ := zrO_some h12
  obtain ⟨zc10, rfl, h14⟩ := zrA1_some h13
  obtain ⟨rfl, h15⟩ := zrP_some h14
  obtain ⟨za11, e10, h16⟩ := zrO_some h15
  obtain ⟨zc12, rfl, h17⟩ := zrA1_some h16
  obtain ⟨q2, rfl, h18⟩ := zrD_some h17
  obtain ⟨za13, e11, h19⟩ := zrO_some h18
  obtain ⟨zc14, rfl, h20⟩ := zrA1_some h19
  obtain ⟨q3, rfl, h21⟩ := zrI_some h20
  obtain ⟨za15, e12, h22⟩ := zrO_some h21
  obtain ⟨zc16, rfl, h23⟩ := zrA1_some h22
  obtain ⟨q4, rfl, h24⟩ := zrB_some h23
  obtain ⟨za17, e13, h25⟩ := zrO_some h24
  obtain ⟨zc18, rfl, h26⟩ := zrA1_some h25
  obtain ⟨q5, rfl, h27⟩ := zrI_some h26
  obtain ⟨zq19, zw20, rfl, h28⟩ := zrL_some h27
  obtain ⟨zk21, rfl, h29⟩ := zrKey_some h28
  obtain ⟨zl22, rfl, h30⟩ := zrC_some h29
  obtain ⟨zc23, zr24, rfl, h31⟩ := zrL_some h30
  obtain ⟨q6, rfl, h32⟩ := zrD_some h31
  obtain ⟨rfl, h33⟩ := zrN_some h32
  obtain ⟨zq25, zw26, rfl, h34⟩ := zrL_some h33
  obtain ⟨zk27, rfl, h35⟩ := zrKey_some h34
  obtain ⟨zl28, rfl, h36⟩ := zrC_some h35
  obtain ⟨zc29, zr30, rfl, h37⟩ := zrL_some h36
  obtain ⟨q7, rfl, h38⟩ := zrD_some h37
  obtain ⟨rfl, h39⟩ := zrN_some h38
  obtain ⟨zq31, zw32, rfl, h40⟩ := zrL_some h39
  obtain ⟨zk33, rfl, h41⟩ := zrKey_some h40
  obtain ⟨zl34, rfl, h42⟩ := zrC_some h41
  obtain ⟨zc35, zr36, rfl, h43⟩ := zrL_some h42
  obtain ⟨q8, rfl, h44⟩ := zrD_some h43
  obtain ⟨rfl, h45⟩ := zrN_some h44
  obtain ⟨rfl, h46⟩ := zrN_some h45
  have h := Option.some.inj h46
  have hu := congrArg Prod.fst h
  have hv := congrArg Prod.snd h
  dsimp only at hu hv
  subst hu
  subst hv
  exact ⟨rfl, (tm_fill (hj rfl) (Lv := [(3, .one (.p 0 0)), (4, .one (.p 1 0)), (6, .one (.v false (.bool q0))), (7, .one (.v false (.int .i64 q1))), (8, .one (.p 22 0)), (10, .one (.d false false (.prod (.int .i64) (.int .i64)) q2)), (11, .one (.v false (.int .i64 q3))), (12, .one (.v false (.bool q4))), (13, .one (.v false (.int .i64 q5)))]) (by kernel_rfl) ⟨e3, e4, e6, e7, e8, e10, e11, e12, e13, trivial⟩).trans (by kernel_rfl), rfl⟩
theorem sc1_read_ok (st : Stt) (u : sc1_U) (v : va_V) (h : sc1_read st = some (u, v)) : sc1_cok st = true ∧ staysA [] [22, 1, 0] st.own = true ∧ sc1_can st = sc1_St u v := by
  obtain ⟨h1, h2, h3⟩ := sc1_rd_ok (fun hb => by rw [Bool.and_eq_true, Bool.and_eq_true] at hb; exact hb.2.2) h
  rw [Bool.and_eq_true, Bool.and_eq_true] at h1
  refine ⟨h1.1, h1.2.1, ?_⟩
  have e : sc1_can st = ⟨(sc1_can st).tm, (sc1_can st).own, 2044⟩ := by kernel_rfl
  rw [e, h2, h3]
  rfl
noncomputable def sc1_cond (u : sc1_U) (v : va_V) : Bool := runC (sc1_step u) v
noncomputable def sc1_g (u : sc1_U) (v : va_V) : Nat × va_V := runG (sc1_step u) v
theorem sc1_hg : ∀ (u : sc1_U) (v : va_V), sc1_cond u v = true → loopN (sc1_step u) ((fun u v => runF (sc1_step u) v) u v) v = some (sc1_g u v) := by
  exact fun u v h => run_hg h
noncomputable def sc1_m (st : Stt) : Option (Tr (Ex × Stt)) := sumM sc1_read sc1_cond sc1_St sc1_g [(0, .exit 2)] st
noncomputable def suC_L53 : FuncId → Loops := addL 8 [0, 1, 0, 1, 0, 0, 1, 0, 0, 1, 0, 1, 1, 1, 1, 1, 1] sc1_m suC_L52
set_option maxRecDepth 100000 in
set_option maxHeartbeats 4000000 in
theorem suC_L53_ok : LoopsOK Try.prog suC_L53 :=
  loop_sumF (body := (bodyOf Try.prog 8)) (c := (loopOf (bodyOf Try.prog 8) [1, 1, 1, 1, 1, 1, 0, 1, 0, 0, 1, 0, 0, 1, 0, 1, 0])) (kinds := [.exit 2]) (allow := [(0, .exit 2)]) (St := sc1_St) (step := sc1_step) (W := [0, 1, 2, 5, 9, 14, 15, 16, 17, 18, 19, 20, 21, 22, 23, 24, 25, 26, 27, 28, 29, 30, 31, 32, 33, 34, 35, 36, 37, 38, 39, 40, 41, 42, 43, 44, 45, 46, 47, 48, 49, 50, 51, 52, 53, 54, 55, 56, 57, 58, 59, 60, 61, 62, 63, 64, 65, 66, 67, 68, 69, 70, 71, 72, 73, 74, 75, 76, 77, 78, 79, 80, 81, 82, 83, 84, 85, 86, 87, 88, 89, 90, 91, 92, 93, 94, 95, 96, 97, 98, 99, 100, 101, 102]) (As := []) (ks := [22, 1, 0]) (dd := []) (nx := 2044) (n := 100000) (g := sc1_g) (cond := sc1_cond) (fuel := (fun u v => runF (sc1_step u) v)) (read := sc1_read) (by kernel_rfl) (suC_S51_ok) (suC_L52_ok) 7 ⟨Try.f8, by kernel_rfl, by kernel_rfl⟩ (by kernel_rfl) (by kernel_rfl) (by kernel_rfl) sc1_step_eq sc1_hg sc1_read_ok
abbrev sc0_U : Type := Int × (Ty.list (.prod (.int .i64) (.int .i64))).den × (Ty.list (.prod (.int .i64) (.list (.prod (.int .i64) (.int .i64))))).den × (Ty.list (.prod (.int .i64) (.list (.prod (.int .i64) (.int .i64))))).den × (Ty.list (.prod (.int .i64) (.list (.prod (.int .i64) (.int .i64))))).den
noncomputable def sc0_St (u : sc0_U) (v : va_V) : Stt := ⟨[.one .junk, .one .junk, .one .junk, .one (.p 0 0), .one (.p 1 0), .one .junk, .one (.v false (.bool v.1)), .one (.v false (.int .i64 u.1)), .one (.p 22 0), .one .junk, .one (.d false false (.prod (.int .i64) (.int .i64)) u.2.1), .one (.v false (.int .i64 v.2)), .one .junk, .one .junk, .one .junk, .one .junk, .one .junk, .one .junk, .one .junk, .one .junk, .one .junk, .one .junk, .one .junk, .one .junk, .one .junk, .one .junk, .one .junk, .one .junk, .one .junk, .one .junk, .one .junk, .one .junk, .one .junk, .one .junk, .one .junk, .one .junk, .one .junk, .one .junk, .one .junk, .one .junk, .one .junk, .one .junk, .one .junk, .one .junk, .one .junk, .one .junk, .one .junk, .one .junk, .one .junk, .one .junk, .one .junk, .one .junk, .one .junk, .one .junk, .one .junk, .one .junk, .one .junk, .one .junk, .one .junk, .one .junk, .one .junk, .one .junk, .one .junk, .one .junk, .one .junk, .one .junk, .one .junk, .one .junk, .one .junk, .one .junk, .one .junk, .one .junk, .one .junk, .one .junk, .one .junk, .one .junk, .one .junk, .one .junk, .one .junk, .one .junk, .one .junk, .one .junk, .one .junk, .one .junk, .one .junk, .one .junk, .one .junk, .one .junk, .one .junk, .one .junk, .one .junk, .one .junk, .one .junk, .one .junk, .one .junk, .one .junk, .one .junk, .one .junk, .one .junk, .one .junk, .one .junk, .one .junk, .one .junk], [(22, .cells [.d false false (.prod (.int .i64) (.list (.prod (.int .i64) (.int .i64)))) u.2.2.1]), (1, .cells [.d false false (.prod (.int .i64) (.list (.prod (.int .i64) (.int .i64)))) u.2.2.2.1]), (0, .cells [.d false false (.prod (.int .i64) (.list (.prod (.int .i64) (.int .i64)))) u.2.2.2.2])], 1031⟩
noncomputable def sc0_step (u : sc0_U) (v : va_V) : Tr (va_V ⊕ (Nat × va_V)) :=
  match u, v with
  | (q1, q2, q4, q5, q6), (q0, q3) => .br (decide (q3 < (↑(List.length q2) : Int))) (.br (decide ((0 : Int) ≤ q3) && decide (q3 < (↑(List.length q2) : Int))) (.br (sc1_cond (q0, q1, q2, q3, q4, q5, q6) (false, IntKind.wrap .i64 (Prod.snd (el_ii q2 q3) - q1))) (.br (Nat.beq (Prod.fst (sc1_g (q0, q1, q2, q3, q4, q5, q6) (false, IntKind.wrap .i64 (Prod.snd (el_ii q2 q3) - q1)))) (0 : Nat)) (.br (decide ((0 : Int) ≤ q3) && decide (q3 < (↑(List.length q2) : Int))) (.br (szG q4) (.br ((valGB q4 && memG q4 (Prod.fst (el_ii q2 q3)) (Prod.snd (el_ii q2 q3))) == Prod.fst (Prod.snd (sc1_g (q0, q1, q2, q3, q4, q5, q6) (false, IntKind.wrap .i64 (Prod.snd (el_ii q2 q3) - q1))))) (.ret (.inr (0, (false, q3)))) (.ret (.inl (q0, IntKind.wrap .i64 (q3 + (1 : Int)))))) (.bad 900)) (.bad 29)) (.bad 902)) (.bad 901)) (.bad 29)) (.ret (.inr (1, (q0, q3))))
set_option maxRecDepth 100000 in
set_option maxHeartbeats 4000000 in
theorem sc0_step_eq : ∀ (u : sc0_U) (v : va_V), (evalC Try.prog (evalB Try.prog suC_S51 (opens []) suC_L53 7).1 (evalB Try.prog suC_S51 (opens []) suC_L53 7).2 (opens []) (suC_L53 8) 100000 (0 :: [0, 1, 0, 1, 1, 1, 1, 1, 1]) (loopOf (bodyOf Try.prog 8) [1, 1, 1, 1, 1, 1, 0, 1, 0]) (sc0_St u v) []).bind (finF [0, 1, 2, 5, 9, 12, 13, 14, 15, 16, 17, 18, 19, 20, 21, 22, 23, 24, 25, 26, 27, 28, 29, 30, 31, 32, 33, 34, 35, 36, 37, 38, 39, 40, 41, 42, 43, 44, 45, 46, 47, 48, 49, 50, 51, 52, 53, 54, 55, 56, 57, 58, 59, 60, 61, 62, 63, 64, 65, 66, 67, 68, 69, 70, 71, 72, 73, 74, 75, 76, 77, 78, 79, 80, 81, 82, 83, 84, 85, 86, 87, 88, 89, 90, 91, 92, 93, 94, 95, 96, 97, 98, 99, 100, 101, 102] [] [22, 1, 0] [] 1031) = (sc0_step u v).bind (outA (sc0_St u) [.ret, .exit 0]) := by
  rintro ⟨q1, q2, q4, q5, q6⟩ ⟨q0, q3⟩
  kernel_rfl
noncomputable def sc0_rd (b : Bool) (o3 : Option AV) (o4 : Option AV) (o6 : Option AV) (o7 : Option AV) (o8 : Option AV) (o10 : Option AV) (o11 : Option AV) (own : Own) : Option (sc0_U × va_V) := zrT b <| zrO o3 fun za1 => zrA1 za1 fun zc2 => zrP 0 0 zc2 <| zrO o4 fun za3 => zrA1 za3 fun zc4 => zrP 1 0 zc4 <| zrO o6 fun za5 => zrA1 za5 fun zc6 => zrB zc6 fun q0 => zrO o7 fun za7 => zrA1 za7 fun zc8 => zrI .i64 zc8 fun q1 => zrO o8 fun za9 => zrA1 za9 fun zc10 => zrP 22 0 zc10 <| zrO o10 fun za11 => zrA1 za11 fun zc12 => zrD (.prod (.int .i64) (.int .i64)) zc12 fun q2 => zrO o11 fun za13 => zrA1 za13 fun zc14 => zrI .i64 zc14 fun q3 => zrL own fun zq15 zw16 => zrKey 22 zq15 fun zk17 => zrC zk17 fun zl18 => zrL zl18 fun zc19 zr20 => zrD (.prod (.int .i64) (.list (.prod (.int .i64) (.int .i64)))) zc19 fun q4 => zrN zr20 <| zrL zw16 fun zq21 zw22 => zrKey 1 zq21 fun zk23 => zrC zk23 fun zl24 => zrL zl24 fun zc25 zr26 => zrD (.prod (.int .i64) (.list (.prod (.int .i64) (.int .i64)))) zc25 fun q5 => zrN zr26 <| zrL zw22 fun zq27 zw28 => zrKey 0 zq27 fun zk29 => zrC zk29 fun zl30 => zrL zl30 fun zc31 zr32 => zrD (.prod (.int .i64) (.list (.prod (.int .i64) (.int .i64)))) zc31 fun q6 => zrN zr32 <| zrN zw28 <| some ((q1, q2, q4, q5, q6), (q0, q3))
noncomputable def sc0_can (st : Stt) : Stt := canA [0, 1, 2, 5, 9, 12, 13, 14, 15, 16, 17, 18, 19, 20, 21, 22, 23, 24, 25, 26, 27, 28, 29, 30, 31, 32, 33, 34, 35, 36, 37, 38, 39, 40, 41, 42, 43, 44, 45, 46, 47, 48, 49, 50, 51, 52, 53, 54, 55, 56, 57, 58, 59, 60, 61, 62, 63, 64, 65, 66, 67, 68, 69, 70, 71, 72, 73, 74, 75, 76, 77, 78, 79, 80, 81, 82, 83, 84, 85, 86, 87, 88, 89, 90, 91, 92, 93, 94, 95, 96, 97, 98, 99, 100, 101, 102] [] [22, 1, 0] [] 1031 st
noncomputable def sc0_cok (st : Stt) : Bool := canAok [0, 1, 2, 5, 9, 12, 13, 14, 15, 16, 17, 18, 19, 20, 21, 22, 23, 24, 25, 26, 27, 28, 29, 30, 31, 32, 33, 34, 35, 36, 37, 38, 39, 40, 41, 42, 43, 44, 45, 46, 47, 48, 49, 50, 51, 52, 53, 54, 55, 56, 57, 58, 59, 60, 61, 62, 63, 64, 65, 66, 67, 68, 69, 70, 71, 72, 73, 74, 75, 76, 77, 78, 79, 80, 81, 82, 83, 84, 85, 86, 87, 88, 89, 90, 91, 92, 93, 94, 95, 96, 97, 98, 99, 100, 101, 102] [] [22, 1, 0] [] 1031 st
noncomputable def sc0_read (st : Stt) : Option (sc0_U × va_V) := sc0_rd (sc0_cok st && (staysA [] [22, 1, 0] st.own && juAll [0, 1, 2, 5, 9, 12, 13, 14, 15, 16, 17, 18, 19, 20, 21, 22, 23, 24, 25, 26, 27, 28, 29, 30, 31, 32, 33, 34, 35, 36, 37, 38, 39, 40, 41, 42, 43, 44, 45, 46, 47, 48, 49, 50, 51, 52, 53, 54, 55, 56, 57, 58, 59, 60, 61, 62, 63, 64, 65, 66, 67, 68, 69, 70, 71, 72, 73, 74, 75, 76, 77, 78, 79, 80, 81, 82, 83, 84, 85, 86, 87, 88, 89, 90, 91, 92, 93, 94, 95, 96, 97, 98, 99, 100, 101, 102] (sc0_can st).tm 103)) (sc0_can st).tm[3]? (sc0_can st).tm[4]? (sc0_can st).tm[6]? (sc0_can st).tm[7]? (sc0_can st).tm[8]? (sc0_can st).tm[10]? (sc0_can st).tm[11]? (sc0_can st).own
set_option maxRecDepth 100000 in
set_option maxHeartbeats 4000000 in
theorem sc0_rd_ok {b : Bool} {tm : List AV} {own : Own} {u : sc0_U} {v : va_V} (hj : b = true → juAll [0, 1, 2, 5, 9, 12, 13, 14, 15, 16, 17, 18, 19, 20, 21, 22, 23, 24, 25, 26, 27, 28, 29, 30, 31, 32, 33, 34, 35, 36, 37, 38, 39, 40, 41, 42, 43, 44, 45, 46, 47, 48, 49, 50, 51, 52, 53, 54, 55, 56, 57, 58, 59, 60, 61, 62, 63, 64, 65, 66, 67, 68, 69, 70, 71, 72, 73, 74, 75, 76, 77, 78, 79, 80, 81, 82, 83, 84, 85, 86, 87, 88, 89, 90, 91, 92, 93, 94, 95, 96, 97, 98, 99, 100, 101, 102] tm 103 = true) (h : sc0_rd b tm[3]? tm[4]? tm[6]? tm[7]? tm[8]? tm[10]? tm[11]? own = some (u, v)) : b = true ∧ tm = (sc0_St u v).tm ∧ own = (sc0_St u v).own := by
  unfold sc0_rd at h
  obtain ⟨rfl, h0⟩ := zrT_some h
  obtain ⟨za1, e3, h1⟩ := zrO_some h0
  obtain ⟨zc2, rfl, h2⟩ := zrA1_some h1
  obtain ⟨rfl, h3⟩ := zrP_some h2
  obtain ⟨za3, e4, h4⟩ := zrO_some h3
  obtain ⟨zc4, rfl, h5⟩ := zrA1_some h4
  obtain ⟨rfl, h6⟩ := zrP_some h5
  obtain ⟨za5, e6, h7⟩ := zrO_some h6
  obtain ⟨zc6, rfl, h8⟩ := zrA1_some h7
  obtain ⟨q0, rfl, h9⟩ := zrB_some h8
  obtain ⟨za7, e7, h10⟩ := zrO_some h9
  obtain ⟨zc8, rfl, h11⟩ := zrA1_some h10
  obtain ⟨q1, rfl, h12⟩ := zrI_some h11
  obtain ⟨za9, e8, h13⟩ := zrO_some h12
  obtain ⟨zc10, rfl, h14⟩ := zrA1_some h13
  obtain ⟨rfl, h15⟩ := zrP_some h14
  obtain ⟨za11, e10, h16⟩ := zrO_some h15
  obtain ⟨zc12, rfl, h17⟩ := zrA1_some h16
  obtain ⟨q2, rfl, h18⟩ := zrD_some h17
  obtain ⟨za13, e11, h19⟩ := zrO_some h18
  obtain ⟨zc14, rfl, h20⟩ := zrA1_some h19
  obtain ⟨q3, rfl, h21⟩ := zrI_some h20
  obtain ⟨zq15, zw16, rfl, h22⟩ := zrL_some h21
  obtain ⟨zk17, rfl, h23⟩ := zrKey_some h22
  obtain ⟨zl18, rfl, h24⟩ := zrC_some h23
  obtain ⟨zc19, zr20, rfl, h25⟩ := zrL_some h24
  obtain ⟨q4, rfl, h26⟩ := zrD_some h25
  obtain ⟨rfl, h27⟩ := zrN_some h26
  obtain ⟨zq21, zw22, rfl, h28⟩ := zrL_some h27
  obtain ⟨zk23, rfl, h29⟩ := zrKey_some h28
  obtain ⟨zl24, rfl, h30⟩ := zrC_some h29
  obtain ⟨zc25, zr26, rfl, h31⟩ := zrL_some h30
  obtain ⟨q5, rfl, h32⟩ := zrD_some h31
  obtain ⟨rfl, h33⟩ := zrN_some h32
  obtain ⟨zq27, zw28, rfl, h34⟩ := zrL_some h33
  obtain ⟨zk29, rfl, h35⟩ := zrKey_some h34
  obtain ⟨zl30, rfl, h36⟩ := zrC_some h35
  obtain ⟨zc31, zr32, rfl, h37⟩ := zrL_some h36
  obtain ⟨q6, rfl, h38⟩ := zrD_some h37
  obtain ⟨rfl, h39⟩ := zrN_some h38
  obtain ⟨rfl, h40⟩ := zrN_some h39
  have h := Option.some.inj h40
  have hu := congrArg Prod.fst h
  have hv := congrArg Prod.snd h
  dsimp only at hu hv
  subst hu
  subst hv
  exact ⟨rfl, (tm_fill (hj rfl) (Lv := [(3, .one (.p 0 0)), (4, .one (.p 1 0)), (6, .one (.v false (.bool q0))), (7, .one (.v false (.int .i64 q1))), (8, .one (.p 22 0)), (10, .one (.d false false (.prod (.int .i64) (.int .i64)) q2)), (11, .one (.v false (.int .i64 q3)))]) (by kernel_rfl) ⟨e3, e4, e6, e7, e8, e10, e11, trivial⟩).trans (by kernel_rfl), rfl⟩
theorem sc0_read_ok (st : Stt) (u : sc0_U) (v : va_V) (h : sc0_read st = some (u, v)) : sc0_cok st = true ∧ staysA [] [22, 1, 0] st.own = true ∧ sc0_can st = sc0_St u v := by
  obtain ⟨h1, h2, h3⟩ := sc0_rd_ok (fun hb => by rw [Bool.and_eq_true, Bool.and_eq_true] at hb; exact hb.2.2) h
  rw [Bool.and_eq_true, Bool.and_eq_true] at h1
  refine ⟨h1.1, h1.2.1, ?_⟩
  have e : sc0_can st = ⟨(sc0_can st).tm, (sc0_can st).own, 1031⟩ := by kernel_rfl
  rw [e, h2, h3]
  rfl
noncomputable def sc0_cond (u : sc0_U) (v : va_V) : Bool := runC (sc0_step u) v
noncomputable def sc0_g (u : sc0_U) (v : va_V) : Nat × va_V := runG (sc0_step u) v
theorem sc0_hg : ∀ (u : sc0_U) (v : va_V), sc0_cond u v = true → loopN (sc0_step u) ((fun u v => runF (sc0_step u) v) u v) v = some (sc0_g u v) := by
  exact fun u v h => run_hg h
noncomputable def sc0_m (st : Stt) : Option (Tr (Ex × Stt)) := sumM sc0_read sc0_cond sc0_St sc0_g [(0, .ret), (1, .exit 0)] st
noncomputable def suC_L54 : FuncId → Loops := addL 8 [0, 1, 0, 1, 1, 1, 1, 1, 1] sc0_m suC_L53
set_option maxRecDepth 100000 in
set_option maxHeartbeats 4000000 in
theorem suC_L54_ok : LoopsOK Try.prog suC_L54 :=
  loop_sumF (body := (bodyOf Try.prog 8)) (c := (loopOf (bodyOf Try.prog 8) [1, 1, 1, 1, 1, 1, 0, 1, 0])) (kinds := [.ret, .exit 0]) (allow := [(0, .ret), (1, .exit 0)]) (St := sc0_St) (step := sc0_step) (W := [0, 1, 2, 5, 9, 12, 13, 14, 15, 16, 17, 18, 19, 20, 21, 22, 23, 24, 25, 26, 27, 28, 29, 30, 31, 32, 33, 34, 35, 36, 37, 38, 39, 40, 41, 42, 43, 44, 45, 46, 47, 48, 49, 50, 51, 52, 53, 54, 55, 56, 57, 58, 59, 60, 61, 62, 63, 64, 65, 66, 67, 68, 69, 70, 71, 72, 73, 74, 75, 76, 77, 78, 79, 80, 81, 82, 83, 84, 85, 86, 87, 88, 89, 90, 91, 92, 93, 94, 95, 96, 97, 98, 99, 100, 101, 102]) (As := []) (ks := [22, 1, 0]) (dd := []) (nx := 1031) (n := 100000) (g := sc0_g) (cond := sc0_cond) (fuel := (fun u v => runF (sc0_step u) v)) (read := sc0_read) (by kernel_rfl) (suC_S51_ok) (suC_L53_ok) 7 ⟨Try.f8, by kernel_rfl, by kernel_rfl⟩ (by kernel_rfl) (by kernel_rfl) (by kernel_rfl) sc0_step_eq sc0_hg sc0_read_ok
theorem someP {s1 s2 : Bool} {P : Int → Prop} {S : Prop} {l d : Int} (hl : l ≤ d) (h : s1 = true ↔ S ∨ ∃ z, l ≤ z ∧ z < d ∧ P z) (g : s2 = true ↔ s1 = true ∨ P d) : s2 = true ↔ S ∨ ∃ z, l ≤ z ∧ z < d + 1 ∧ P z := by
  rw [g, h]
  constructor
  · rintro ((q | ⟨z, z1, z2, z3⟩) | q)
    · exact .inl q
    · exact .inr ⟨z, z1, by omega, z3⟩
    · exact .inr ⟨d, hl, by omega, q⟩
  · rintro (q | ⟨z, z1, z2, z3⟩)
    · exact .inl (.inl q)
    · by_cases e : z = d
      · subst e; exact .inr z3
      · exact .inl (.inr ⟨z, z1, by omega, z3⟩)
theorem bif_or (a b : Bool) : (bif a then true else b) = true ↔ a = true ∨ b = true := by cases a <;> simp
theorem inr_sz {R : Rg} (r : Ty.InR (.list (.prod (.int .i64) (.list (.prod (.int .i64) (.int .i64))))) R) : szG R = true := by
  unfold szG
  have h1 : R.length ≤ maxLen := r.1
  have h2 : ∀ x ∈ R, x.2.length ≤ maxLen := fun x hx => (r.2 x hx).2.1
  unfold maxLen at h1 h2
  rw [Bool.and_eq_true, decide_eq_true_eq, List.all_eq_true]
  exact ⟨by omega, fun x hx => decide_eq_true (by have := h2 x hx; omega)⟩
theorem sm_cnt {R : Rg} (h : smG R = true) : cntV R ≤ 600 := by
  unfold smG at h
  rw [Bool.and_eq_true, Bool.and_eq_true] at h
  exact of_decide_eq_true h.2.2
theorem sc2_run {b0 : Bool} {C : List (Int × Int)} {O B R : Rg} {k y : Int} {i : Nat} {s : Bool} (hB : valG B) (hi : i < C.length) (hx : -4096 ≤ C[i].1 ∧ C[i].1 < 4096) (k0 : 0 ≤ k) (k1 : k ≤ 6) :
    sc2_cond (b0, k, C, (i : Int), y, O, B, R) (s, C[i].1 - k) = true ∧ (sc2_g (b0, k, C, (i : Int), y, O, B, R) (s, C[i].1 - k)).1 = 0 ∧ ((sc2_g (b0, k, C, (i : Int), y, O, B, R) (s, C[i].1 - k)).2.1 = true ↔ s = true ∨ ∃ x, C[i].1 - k ≤ x ∧ x < C[i].1 + k + 1 ∧ memG B x y = true) := by
  have hv := valGB_t hB
  have hs := val_sz hB
  have hi0 := lt_t hi
  have w0 : IntKind.wrap .i64 (C[i].1 + k) = C[i].1 + k := wid (by omega) (by omega)
  refine run_val (step := sc2_step (b0, k, C, (i : Int), y, O, B, R)) (Inv := fun v => ∃ (s1 : Bool) (d : Int), v = (s1, d) ∧ C[i].1 - k ≤ d ∧ d ≤ C[i].1 + k + 1 ∧ (s1 = true ↔ s = true ∨ ∃ x, C[i].1 - k ≤ x ∧ x < d ∧ memG B x y = true)) (μ := fun v => (C[i].1 + k + 1 - v.2).toNat) (Q := fun t => t.1 = 0 ∧ (t.2.1 = true ↔ s = true ∨ ∃ x, C[i].1 - k ≤ x ∧ x < C[i].1 + k + 1 ∧ memG B x y = true)) ?_ _ _ (Nat.lt_succ_self _) ⟨s, _, rfl, Int.le_refl _, by omega, ⟨.inl, fun h => h.elim id fun ⟨x, h1, h2, _⟩ => by omega⟩⟩
  rintro v ⟨s1, d, rfl, d0, d1, i1⟩
  by_cases g : d ≤ C[i].1 + k
  · have w3 : IntKind.wrap .i64 (d + (1 : Int)) = d + 1 := wid (by omega) (by omega)
    refine ⟨.inl ((bif s1 then true else memG B d y), d + 1), ?_, ⟨_, _, rfl, by omega, by omega, someP d0 i1 (bif_or _ _)⟩, by show (C[i].1 + k + 1 - (d + 1)).toNat < (C[i].1 + k + 1 - d).toNat; omega⟩
    cases s1
    · simp only [sc2_step, Tr.val, hi0, nn_t, el_r hi, w0, decide_eq_true g, hs, hv, w3, Bool.and_self, Bool.true_and, cond_true, cond_false]
    · simp only [sc2_step, Tr.val, hi0, nn_t, el_r hi, w0, decide_eq_true g, w3, Bool.and_self, cond_true]
  · have : d = C[i].1 + k + 1 := by omega
    subst this
    exact ⟨.inr (0, (s1, C[i].1 + k + 1)), by simp only [sc2_step, Tr.val, hi0, nn_t, el_r hi, w0, decide_eq_false g, Bool.and_self, cond_true, cond_false], rfl, i1⟩
theorem sc1_run {b0 : Bool} {C : List (Int × Int)} {O B R : Rg} {k : Int} {i : Nat} (hB : valG B) (hi : i < C.length) (hx : -4096 ≤ C[i].1 ∧ C[i].1 < 4096) (hy : -4096 ≤ C[i].2 ∧ C[i].2 < 4096) (k0 : 0 ≤ k) (k1 : k ≤ 6) :
    sc1_cond (b0, k, C, (i : Int), O, B, R) (false, C[i].2 - k) = true ∧ (sc1_g (b0, k, C, (i : Int), O, B, R) (false, C[i].2 - k)).1 = 0 ∧ ((sc1_g (b0, k, C, (i : Int), O, B, R) (false, C[i].2 - k)).2.1 = true ↔ False ∨ ∃ y, C[i].2 - k ≤ y ∧ y < C[i].2 + k + 1 ∧ ∃ x, C[i].1 - k ≤ x ∧ x < C[i].1 + k + 1 ∧ memG B x y = true) := by
  have hi0 := lt_t hi
  have w0 : IntKind.wrap .i64 (C[i].2 + k) = C[i].2 + k := wid (by omega) (by omega)
  have w1 : IntKind.wrap .i64 (C[i].1 - k) = C[i].1 - k := wid (by omega) (by omega)
  refine run_val (step := sc1_step (b0, k, C, (i : Int), O, B, R)) (Inv := fun v => ∃ (s1 : Bool) (d : Int), v = (s1, d) ∧ C[i].2 - k ≤ d ∧ d ≤ C[i].2 + k + 1 ∧ (s1 = true ↔ False ∨ ∃ y, C[i].2 - k ≤ y ∧ y < d ∧ ∃ x, C[i].1 - k ≤ x ∧ x < C[i].1 + k + 1 ∧ memG B x y = true)) (μ := fun v => (C[i].2 + k + 1 - v.2).toNat) (Q := fun t => t.1 = 0 ∧ (t.2.1 = true ↔ False ∨ ∃ y, C[i].2 - k ≤ y ∧ y < C[i].2 + k + 1 ∧ ∃ x, C[i].1 - k ≤ x ∧ x < C[i].1 + k + 1 ∧ memG B x y = true)) ?_ _ _ (Nat.lt_succ_self _) ⟨false, _, rfl, Int.le_refl _, by omega, ⟨fun h => (by cases h), fun h => h.elim False.elim fun ⟨x, h1, h2, _⟩ => by omega⟩⟩
  rintro v ⟨s1, d, rfl, d0, d1, i1⟩
  by_cases g : d ≤ C[i].2 + k
  · have w3 : IntKind.wrap .i64 (d + (1 : Int)) = d + 1 := wid (by omega) (by omega)
    obtain ⟨v1, v2, v3⟩ := sc2_run (b0 := b0) (O := O) (R := R) (y := d) (s := s1) hB hi hx k0 k1
    refine ⟨.inl ((sc2_g (b0, k, C, (i : Int), d, O, B, R) (s1, C[i].1 - k)).2.1, d + 1), ?_, ⟨_, _, rfl, by omega, by omega, someP d0 i1 v3⟩, by show (C[i].2 + k + 1 - (d + 1)).toNat < (C[i].2 + k + 1 - d).toNat; omega⟩
    simp only [sc1_step, Tr.val, hi0, nn_t, el_r hi, w0, w1, decide_eq_true g, v1, v2, Nat.beq, w3, Bool.and_self, cond_true]
  · have : d = C[i].2 + k + 1 := by omega
    subst this
    exact ⟨.inr (0, (s1, C[i].2 + k + 1)), by simp only [sc1_step, Tr.val, hi0, nn_t, el_r hi, w0, decide_eq_false g, Bool.and_self, cond_true, cond_false], rfl, i1⟩
theorem near_sq {B : Rg} {k x y : Int} : (∃ v, y - k ≤ v ∧ v < y + k + 1 ∧ ∃ u, x - k ≤ u ∧ u < x + k + 1 ∧ memG B u v = true) ↔ Sq true B k x y := by
  constructor
  · rintro ⟨v, v1, v2, u, u1, u2, h⟩
    exact ⟨u - x, v - y, by omega, by omega, by omega, by omega, by rw [show x + (u - x) = u by omega, show y + (v - y) = v by omega]; exact h⟩
  · rintro ⟨dx, dy, a, b, c, d, h⟩
    exact ⟨y + dy, by omega, by omega, x + dx, by omega, by omega, h⟩
theorem sc0_run {C : List (Int × Int)} {B R : Rg} {k : Int} (hR : valG R) (hc : ovE R B k = 0) (k0 : 0 ≤ k) (k1 : k ≤ 6) (hn : C.length ≤ 50000) (hC : ∀ p ∈ C, memG R p.1 p.2 = true) :
    sc0_cond (k, C, ovR R B k, B, R) (false, 0) = true ∧ sc0_g (k, C, ovR R B k, B, R) (false, 0) = (1, (false, (C.length : Int))) := by
  have he : ovE R B k = chkE B k := by unfold ovE; rw [valGB_t hR]; rfl
  have hb : chkE B k = 0 := by rw [← he]; exact hc
  have hO : ovR R B k = opR 0 R (dlG B k) := by unfold ovR; rw [hc]; rfl
  obtain ⟨hB, hf⟩ : valG B ∧ fitsG B k := by
    unfold chkE at hb
    cases hr : rchB k
    · rw [hr] at hb; cases hb
    · cases hv : valGB B
      · rw [hr, hv] at hb; cases hb
      · cases hf : fitB B k
        · rw [hr, hv, hf] at hb; cases hb
        · exact ⟨valGB_iff.1 hv, fitB_iff.1 hf⟩
  have hD : dlG B k = sqG true B k := by unfold dlG; rw [rch_iff.2 ⟨k0, by omega⟩, valGB_t hB, fitB_iff.2 hf]; rfl
  have sO : szG (ovR R B k) = true := val_sz (ovR_val R B k)
  have vO : valGB (ovR R B k) = true := valGB_t (ovR_val R B k)
  have R1 := run_steps (step := sc0_step (k, C, ovR R B k, B, R)) (St := fun j => (false, (j : Int))) (n := C.length) (t := (1, (false, (C.length : Int)))) (by
    simp only [sc0_step, Tr.val, Int.lt_irrefl, decide_false, cond_false]) C.length 0 (Nat.zero_add _) (fun j _ hj => by
    have hm := hC _ (List.getElem_mem hj)
    have rng := mem_in hR hm
    have w1 : IntKind.wrap .i64 (C[j].2 - k) = C[j].2 - k := wid (by omega) (by omega)
    obtain ⟨v1, v2, v3⟩ := sc1_run (b0 := false) (O := ovR R B k) (R := R) hB hj (by omega) (by omega) k0 k1
    have key : ∀ nb : Bool, (nb = true ↔ False ∨ ∃ y, C[j].2 - k ≤ y ∧ y < C[j].2 + k + 1 ∧ ∃ x, C[j].1 - k ≤ x ∧ x < C[j].1 + k + 1 ∧ memG B x y = true) → memG (ovR R B k) C[j].1 C[j].2 = !nb := fun nb hq => by
      have h1 := ov_mem (B := B) (k := k) hR C[j].1 C[j].2
      unfold ovG at h1
      rw [hO, h1, hm, hD, Bool.true_and]
      congr 1
      rw [Bool.eq_iff_iff, sqG_mem true hB k0 (by omega) (fun _ => hf), ← near_sq, hq, false_or]
    have mO := key _ v3
    have hne : ((!(sc1_g (false, k, C, (j : Int), ovR R B k, B, R) (false, C[j].2 - k)).2.1) == (sc1_g (false, k, C, (j : Int), ovR R B k, B, R) (false, C[j].2 - k)).2.1) = false := by
      cases (sc1_g (false, k, C, (j : Int), ovR R B k, B, R) (false, C[j].2 - k)).2.1 <;> rfl
    have h9 : ((true && memG (ovR R B k) C[j].1 C[j].2) == (sc1_g (false, k, C, (j : Int), ovR R B k, B, R) (false, C[j].2 - k)).2.1) = false := by rw [Bool.true_and, mO]; exact hne
    simp only [sc0_step, Tr.val, lt_t hj, nn_t, el_r hj, w1, v1, v2, Nat.beq, sO, vO, h9, wi1 hj (show (C.length : Int) ≤ 9223372036854775806 by omega), Bool.and_self, cond_true, cond_false])
  exact R1
set_option maxRecDepth 100000 in
theorem law_SupportCells_tree (R : (Ty.list (.prod (.int .i64) (.list (.prod (.int .i64) (.int .i64))))).den) (B : (Ty.list (.prod (.int .i64) (.list (.prod (.int .i64) (.int .i64))))).den) (b : Int) : evalF Try.prog suC_S51 (opens []) suC_L54 9 8 [.ag [.d false false (.prod (.int .i64) (.list (.prod (.int .i64) (.int .i64)))) R], .ag [.d false false (.prod (.int .i64) (.list (.prod (.int .i64) (.int .i64)))) B], .one (.v false (.int .u8 b))] = .br ((bif !smG R then true else (bif !smG B then true else ((szG R && szG B) && (bif ovE R B (IntKind.wrap .i64 (Int.tmod b (6 : Int))) != (0 : Int) then true else ((szG R && decide (cntV R ≤ (9000 : Int))) && ((sc0_cond (IntKind.wrap .i64 (Int.tmod b (6 : Int)), celV R, ovR R B (IntKind.wrap .i64 (Int.tmod b (6 : Int))), B, R) (false, (0 : Int))) && (bif Nat.beq (Prod.fst (sc0_g (IntKind.wrap .i64 (Int.tmod b (6 : Int)), celV R, ovR R B (IntKind.wrap .i64 (Int.tmod b (6 : Int))), B, R) (false, (0 : Int)))) (0 : Nat) then true else ((Nat.beq (Prod.fst (sc0_g (IntKind.wrap .i64 (Int.tmod b (6 : Int)), celV R, ovR R B (IntKind.wrap .i64 (Int.tmod b (6 : Int))), B, R) (false, (0 : Int)))) (1 : Nat)) && (szG (ovR R B (IntKind.wrap .i64 (Int.tmod b (6 : Int)))) && szG R)))))))))) (.ret (.one (.v false (.bool (bif !smG R then true else bif !smG B then true else bif ovE R B (IntKind.wrap .i64 (Int.tmod b (6 : Int))) != (0 : Int) then true else bif Nat.beq (Prod.fst (sc0_g (IntKind.wrap .i64 (Int.tmod b (6 : Int)), celV R, ovR R B (IntKind.wrap .i64 (Int.tmod b (6 : Int))), B, R) (false, (0 : Int)))) (0 : Nat) then Prod.fst (Prod.snd (sc0_g (IntKind.wrap .i64 (Int.tmod b (6 : Int)), celV R, ovR R B (IntKind.wrap .i64 (Int.tmod b (6 : Int))), B, R) (false, (0 : Int)))) else bif withinG (ovR R B (IntKind.wrap .i64 (Int.tmod b (6 : Int)))) R then true else false))))) (.bad 116) := by kernel_rfl
set_option maxHeartbeats 4000000 in
theorem law_SupportCells_all (R : (Ty.list (.prod (.int .i64) (.list (.prod (.int .i64) (.int .i64))))).den) (B : (Ty.list (.prod (.int .i64) (.list (.prod (.int .i64) (.int .i64))))).den) (b : Int) (r0 : Ty.InR (.list (.prod (.int .i64) (.list (.prod (.int .i64) (.int .i64))))) R) (r1 : Ty.InR (.list (.prod (.int .i64) (.list (.prod (.int .i64) (.int .i64))))) B) (l2 : 0 ≤ b) (g2 : b ≤ 255) : Tr.all (fun r => ∃ kn, r = AV.one (.v kn (.bool true))) (.br ((bif !smG R then true else (bif !smG B then true else ((szG R && szG B) && (bif ovE R B (IntKind.wrap .i64 (Int.tmod b (6 : Int))) != (0 : Int) then true else ((szG R && decide (cntV R ≤ (9000 : Int))) && ((sc0_cond (IntKind.wrap .i64 (Int.tmod b (6 : Int)), celV R, ovR R B (IntKind.wrap .i64 (Int.tmod b (6 : Int))), B, R) (false, (0 : Int))) && (bif Nat.beq (Prod.fst (sc0_g (IntKind.wrap .i64 (Int.tmod b (6 : Int)), celV R, ovR R B (IntKind.wrap .i64 (Int.tmod b (6 : Int))), B, R) (false, (0 : Int)))) (0 : Nat) then true else ((Nat.beq (Prod.fst (sc0_g (IntKind.wrap .i64 (Int.tmod b (6 : Int)), celV R, ovR R B (IntKind.wrap .i64 (Int.tmod b (6 : Int))), B, R) (false, (0 : Int)))) (1 : Nat)) && (szG (ovR R B (IntKind.wrap .i64 (Int.tmod b (6 : Int)))) && szG R)))))))))) (.ret (.one (.v false (.bool (bif !smG R then true else bif !smG B then true else bif ovE R B (IntKind.wrap .i64 (Int.tmod b (6 : Int))) != (0 : Int) then true else bif Nat.beq (Prod.fst (sc0_g (IntKind.wrap .i64 (Int.tmod b (6 : Int)), celV R, ovR R B (IntKind.wrap .i64 (Int.tmod b (6 : Int))), B, R) (false, (0 : Int)))) (0 : Nat) then Prod.fst (Prod.snd (sc0_g (IntKind.wrap .i64 (Int.tmod b (6 : Int)), celV R, ovR R B (IntKind.wrap .i64 (Int.tmod b (6 : Int))), B, R) (false, (0 : Int)))) else bif withinG (ovR R B (IntKind.wrap .i64 (Int.tmod b (6 : Int)))) R then true else false))))) (.bad 116)) := by
  obtain ⟨K, rfl⟩ : ∃ K : Rg, K = R := ⟨R, rfl⟩
  obtain ⟨M, rfl⟩ : ∃ K : Rg, K = B := ⟨B, rfl⟩
  have sK : szG K = true := inr_sz r0
  have sM : szG M = true := inr_sz r1
  obtain ⟨k, hk⟩ : ∃ k, k = IntKind.wrap .i64 (Int.tmod b (6 : Int)) := ⟨_, rfl⟩
  have hkb : 0 ≤ k ∧ k ≤ 6 := by
    have e1 : Int.tmod b 6 = b % 6 := Int.tmod_eq_emod_of_nonneg l2
    rw [hk, e1, wid (by omega) (by omega)]
    omega
  rw [← hk]
  cases hA : smG K
  · simp only [Bool.not_false, cond_true]
    exact ⟨fun _ => ⟨_, rfl⟩, fun h => by cases h⟩
  cases hB : smG M
  · simp only [Bool.not_true, Bool.not_false, cond_true, cond_false]
    exact ⟨fun _ => ⟨_, rfl⟩, fun h => by cases h⟩
  have dn : decide (cntV K ≤ 9000) = true := decide_eq_true (by have := sm_cnt hA; omega)
  have sO : szG (ovR K M k) = true := val_sz (ovR_val K M k)
  cases he : ovE K M k != (0 : Int)
  · have hz : ovE K M k = 0 := by simpa using he
    have hv : valGB K = true := by
      cases hv : valGB K
      · unfold ovE at hz; rw [hv] at hz; cases hz
      · rfl
    have h := valGB_iff.1 hv
    have eC : celV K = celG K := by unfold celV; rw [hv]; rfl
    have hl := celG_len h
    have hcn : cntV K = cntG K := by unfold cntV; rw [hv]; rfl
    have hsm := sm_cnt hA
    obtain ⟨v1, v2⟩ := sc0_run (C := celG K) h hz hkb.1 hkb.2 (by omega) fun p hp => celG_mem.1 hp
    have hw : withinG (ovR K M k) K = true := by
      unfold withinG
      rw [valGB_t (ovR_val K M k), hv, Bool.true_and, Bool.true_and]
      refine decide_eq_true ((sub_iff (ovR_val K M k) h).2 fun x y hxy => ?_)
      have hO : ovR K M k = opR 0 K (dlG M k) := by unfold ovR; rw [hz]; rfl
      have h1 := ov_mem (B := M) (k := k) h x y
      unfold ovG at h1
      rw [hO, h1, Bool.and_eq_true] at hxy
      exact hxy.1
    simp only [sK, sM, dn, sO, eC, v1, v2, hw, Nat.beq, Bool.not_true, Bool.and_self, cond_true, cond_false]
    exact ⟨fun _ => ⟨_, rfl⟩, fun h => by cases h⟩
  · simp only [sK, sM, Bool.not_true, Bool.and_self, cond_true, cond_false]
    exact ⟨fun _ => ⟨_, rfl⟩, fun h => by cases h⟩
set_option maxHeartbeats 4000000 in
theorem law_SupportCells (v0 : Value) (x0 : ((.list (.prod (.int .i64) (.list (.prod (.int .i64) (.int .i64))))) : Ty).den) (r0 : Ty.InR (.list (.prod (.int .i64) (.list (.prod (.int .i64) (.int .i64))))) x0) (v1 : Value) (x1 : ((.list (.prod (.int .i64) (.list (.prod (.int .i64) (.int .i64))))) : Ty).den) (r1 : Ty.InR (.list (.prod (.int .i64) (.list (.prod (.int .i64) (.int .i64))))) x1) (b : Int) (l2 : 0 ≤ b) (g2 : b ≤ 255) (z_w : World) (i0 : (AV.ag (Ty.cells false (.list (.prod (.int .i64) (.list (.prod (.int .i64) (.int .i64))))) x0)).is [] (fun _ => none) (fun b => b < z_w.heap.size) z_w v0) (i1 : (AV.ag (Ty.cells false (.list (.prod (.int .i64) (.list (.prod (.int .i64) (.int .i64))))) x1)).is [] (fun _ => none) (fun b => b < z_w.heap.size) z_w v1) : Calls Try.prog 8 #[v0, v1, .int .u8 b] z_w fun e w' => e = .returned (.bool true) ∧ Ext z_w w' := by
  obtain ⟨R, rfl⟩ : ∃ y, y = x0 := ⟨_, rfl⟩
  obtain ⟨B, rfl⟩ : ∃ y, y = x1 := ⟨_, rfl⟩
  refine law_of_tree (by kernel_rfl) (suC_S51_ok) (suC_L54_ok) (law_SupportCells_tree R B b) (law_SupportCells_all R B b r0 r1 l2 g2) rfl z_w _ _ (fun _ h => h) ⟨_, _, rfl, i0, ⟨_, _, rfl, i1, ⟨_, _, rfl, rfl, rfl⟩⟩⟩
end Go.Proofs.Ytacgchandefjgaa
