/-
  Layer 28: SkinCovers.
-/
import Derived.Test.YtacgchandefjgaaProg
import Derived.Test.YtacgchandefjgaaFvX
import Derived.Test.YtacgchandefjgaaFvZ
import Derived.Test.YtacgchandefjgaaAut
import Derived.Test.YtacgchandefjgaaRd
import Derived.Test.YtacgchandefjgaaPl
import Derived.Test.YtacgchandefjgaaScn
import Derived.Test.YtacgchandefjgaaMor
import Derived.Test.YtacgchandefjgaaRgB
import Derived.Test.YtacgchandefjgaaRgC
import Derived.Test.YtacgchandefjgaaRgD
import Derived.Test.YtacgchandefjgaaMoB
import Derived.Test.YtacgchandefjgaaMoC
import Derived.Test.YtacgchandefjgaaMoD
import Derived.Test.YtacgchandefjgaaMoH
import Derived.Test.YtacgchandefjgaaRgJ
import Derived.Test.YtacgchandefjgaaRgE
namespace Go.Proofs.Ytacgchandefjgaa
open Go
abbrev kc1_U : Type := Bool × Int × Int × (Ty.list (.prod (.int .i64) (.int .i64))).den × Int × (Ty.list (.prod (.int .i64) (.list (.prod (.int .i64) (.int .i64))))).den × (Ty.list (.prod (.int .i64) (.list (.prod (.int .i64) (.int .i64))))).den × (Ty.list (.list (.prod (.int .i64) (.list (.prod (.int .i64) (.int .i64)))))).den × Int × Int × Int
noncomputable def kc1_St (u : kc1_U) (v : va_V) : Stt := ⟨[.one .junk, .one (.p 0 0), .one (.v false (.bool u.1)), .one (.p 31 0), .one (.p 32 0), .one (.v false (.int .i64 u.2.1)), .one (.v false (.int .i64 u.2.2.1)), .one (.d false false (.prod (.int .i64) (.int .i64)) u.2.2.2.1), .one (.v false (.int .i64 u.2.2.2.2.1)), .one (.v false (.bool v.1)), .one (.v false (.int .i64 v.2)), .one .junk, .one .junk, .one .junk, .one .junk, .one .junk, .one .junk, .one .junk, .one .junk, .one .junk, .one .junk, .one .junk, .one .junk, .one .junk, .one .junk, .one .junk, .one .junk, .one .junk, .one .junk, .one .junk, .one .junk, .one .junk, .one .junk, .one .junk, .one .junk, .one .junk, .one .junk, .one .junk, .one .junk, .one .junk, .one .junk, .one .junk, .one .junk, .one .junk, .one .junk, .one .junk, .one .junk, .one .junk, .one .junk, .one .junk, .one .junk, .one .junk, .one .junk, .one .junk, .one .junk, .one .junk, .one .junk, .one .junk, .one .junk, .one .junk, .one .junk, .one .junk, .one .junk, .one .junk, .one .junk, .one .junk, .one .junk, .one .junk, .one .junk, .one .junk, .one .junk, .one .junk, .one .junk, .one .junk, .one .junk, .one .junk, .one .junk, .one .junk, .one .junk, .one .junk, .one .junk, .one .junk, .one .junk, .one .junk, .one .junk, .one .junk, .one .junk, .one .junk, .one .junk, .one .junk, .one .junk, .one .junk, .one .junk, .one .junk, .one .junk, .one .junk, .one .junk, .one .junk, .one .junk, .one .junk, .one .junk, .one .junk, .one .junk, .one .junk, .one .junk, .one .junk, .one .junk, .one .junk, .one .junk, .one .junk, .one .junk, .one .junk, .one .junk, .one .junk, .one .junk, .one .junk, .one .junk, .one .junk, .one .junk, .one .junk, .one .junk, .one .junk, .one .junk, .one .junk, .one .junk, .one .junk, .one .junk], [(32, .cells [.d false false (.prod (.int .i64) (.list (.prod (.int .i64) (.int .i64)))) u.2.2.2.2.2.1]), (31, .cells [.d false false (.prod (.int .i64) (.list (.prod (.int .i64) (.int .i64)))) u.2.2.2.2.2.2.1]), (0, .cells [.d false false (.list (.prod (.int .i64) (.list (.prod (.int .i64) (.int .i64))))) u.2.2.2.2.2.2.2.1, .v false (.int .i64 u.2.2.2.2.2.2.2.2.1), .v false (.int .i64 u.2.2.2.2.2.2.2.2.2.1), .v false (.int .i64 u.2.2.2.2.2.2.2.2.2.2)])], 2064⟩
noncomputable def kc1_step (u : kc1_U) (v : va_V) : Tr (va_V ⊕ (Nat × va_V)) :=
  match u, v with
  | (_, q1, _, q3, q4, _, _, q9, q10, _, _), (q5, q6) => .br (decide (q6 ≤ IntKind.wrap .i64 (q10 + q1))) (.br (bif bif q5 then decide (q6 ≥ (0 : Int)) else false then decide (q6 < (↑(List.length q9) : Int)) else false) (.br (decide ((0 : Int) ≤ q6) && decide (q6 < (↑(List.length q9) : Int))) (.br (decide ((0 : Int) ≤ q4) && decide (q4 < (↑(List.length q3) : Int))) (.br (szG (el_lilii q9 q6)) (.ret (.inl (valGB (el_lilii q9 q6) && memG (el_lilii q9 q6) (Prod.fst (el_ii q3 q4)) (Prod.snd (el_ii q3 q4)), IntKind.wrap .i64 (q6 + (1 : Int))))) (.bad 900)) (.bad 29)) (.bad 29)) (.ret (.inl (false, IntKind.wrap .i64 (q6 + (1 : Int)))))) (.ret (.inr (0, (q5, q6))))
set_option maxRecDepth 100000 in
set_option maxHeartbeats 4000000 in
theorem kc1_step_eq : ∀ (u : kc1_U) (v : va_V), (evalC Try.prog (evalB Try.prog rgE_S58 (opens []) rgE_L56 7).1 (evalB Try.prog rgE_S58 (opens []) rgE_L56 7).2 (opens []) (rgE_L56 9) 100000 (0 :: [0, 1, 0, 1, 0, 0, 1, 0, 0, 1, 0, 1, 1, 1, 1, 1]) (loopOf (bodyOf Try.prog 9) [1, 1, 1, 1, 1, 0, 1, 0, 0, 1, 0, 0, 1, 0, 1, 0]) (kc1_St u v) []).bind (finF [0, 11, 12, 13, 14, 15, 16, 17, 18, 19, 20, 21, 22, 23, 24, 25, 26, 27, 28, 29, 30, 31, 32, 33, 34, 35, 36, 37, 38, 39, 40, 41, 42, 43, 44, 45, 46, 47, 48, 49, 50, 51, 52, 53, 54, 55, 56, 57, 58, 59, 60, 61, 62, 63, 64, 65, 66, 67, 68, 69, 70, 71, 72, 73, 74, 75, 76, 77, 78, 79, 80, 81, 82, 83, 84, 85, 86, 87, 88, 89, 90, 91, 92, 93, 94, 95, 96, 97, 98, 99, 100, 101, 102, 103, 104, 105, 106, 107, 108, 109, 110, 111, 112, 113, 114, 115, 116, 117, 118, 119, 120, 121, 122, 123, 124, 125, 126] [] [32, 31, 0] [] 2064) = (kc1_step u v).bind (outA (kc1_St u) [.exit 2]) := by
  rintro ⟨q0, q1, q2, q3, q4, q7, q8, q9, q10, q11, q12⟩ ⟨q5, q6⟩
  kernel_rfl
noncomputable def kc1_rd (b : Bool) (o1 : Option AV) (o2 : Option AV) (o3 : Option AV) (o4 : Option AV) (o5 : Option AV) (o6 : Option AV) (o7 : Option AV) (o8 : Option AV) (o9 : Option AV) (o10 : Option AV) (own : Own) : Option (kc1_U × va_V) := zrT b <| zrO o1 fun za1 => zrA1 za1 fun zc2 => zrP 0 0 zc2 <| zrO o2 fun za3 => zrA1 za3 fun zc4 => zrB zc4 fun q0 => zrO o3 fun za5 => zrA1 za5 fun zc6 => zrP 31 0 zc6 <| zrO o4 fun za7 => zrA1 za7 fun zc8 => zrP 32 0 zc8 <| zrO o5 fun za9 => zrA1 za9 fun zc10 => zrI .i64 zc10 fun q1 => zrO o6 fun za11 => zrA1 za11 fun zc12 => zrI .i64 zc12 fun q2 => zrO o7 fun za13 => zrA1 za13 fun zc14 => zrD (.prod (.int .i64) (.int .i64)) zc14 fun q3 => zrO o8 fun za15 => zrA1 za15 fun zc16 => zrI .i64 zc16 fun q4 => zrO o9 fun za17 => zrA1 za17 fun zc18 => zrB zc18 fun q5 => zrO o10 fun za19 => zrA1 za19 fun zc20 => zrI .i64 zc20 fun q6 => zrL own fun zq21 zw22 => zrKey 32 zq21 fun zk23 => zrC zk23 fun zl24 => zrL zl24 fun zc25 zr26 => zrD (.prod (.int .i64) (.list (.prod (.int .i64) (.int .i64)))) zc25 fun q7 => zrN zr26 <| zrL zw22 fun zq27 zw28 => zrKey 31 zq27 fun zk29 => zrC zk29 fun zl30 => zrL zl30 fun zc31 zr32 => zrD (.prod (.int .i64) (.list (.prod (.int .i64) (.int .i64)))) zc31 fun q8 => zrN zr32 <| zrL zw28 fun zq33 zw34 => zrKey 0 zq33 fun zk35 => zrC zk35 fun zl36 => zrL zl36 fun zc37 zr38 => zrD (.list (.prod (.int .i64) (.list (.prod (.int .i64) (.int .i64))))) zc37 fun q9 => zrL zr38 fun zc39 zr40 => zrI .i64 zc39 fun q10 => zrL zr40 fun zc41 zr42 => zrI .i64 zc41 fun q11 => zrL zr42 fun zc43 zr44 => zrI .i64 zc43 fun q12 => zrN zr44 <| zrN zw34 <| some ((q0, q1, q2, q3, q4, q7, q8, q9, q10, q11, q12), (q5, q6))
noncomputable def kc1_can (st : Stt) : Stt := canA [0, 11, 12, 13, 14, 15, 16, 17, 18, 19, 20, 21, 22, 23, 24, 25, 26, 27, 28, 29, 30, 31, 32, 33, 34, 35, 36, 37, 38, 39, 40, 41, 42, 43, 44, 45, 46, 47, 48, 49, 50, 51, 52, 53, 54, 55, 56, 57, 58, 59, 60, 61, 62, 63, 64, 65, 66, 67, 68, 69, 70, 71, 72, 73, 74, 75, 76, 77, 78, 79, 80, 81, 82, 83, 84, 85, 86, 87, 88, 89, 90, 91, 92, 93, 94, 95, 96, 97, 98, 99, 100, 101, 102, 103, 104, 105, 106, 107, 108, 109, 110, 111, 112, 113, 114, 115, 116, 117, 118, 119, 120, 121, 122, 123, 124, 125, 126] [] [32, 31, 0] [] 2064 st
noncomputable def kc1_cok (st : Stt) : Bool := canAok [0, 11, 12, 13, 14, 15, 16, 17, 18, 19, 20, 21, 22, 23, 24, 25, 26, 27, 28, 29, 30, 31, 32, 33, 34, 35, 36, 37, 38, 39, 40, 41, 42, 43, 44, 45, 46, 47, 48, 49, 50, 51, 52, 53, 54, 55, 56, 57, 58, 59, 60, 61, 62, 63, 64, 65, 66, 67, 68, 69, 70, 71, 72, 73, 74, 75, 76, 77, 78, 79, 80, 81, 82, 83, 84, 85, 86, 87, 88, 89, 90, 91, 92, 93, 94, 95, 96, 97, 98, 99, 100, 101, 102, 103, 104, 105, 106, 107, 108, 109, 110, 111, 112, 113, 114, 115, 116, 117, 118, 119, 120, 121, 122, 123, 124, 125, 126] [] [32, 31, 0] [] 2064 st
noncomputable def kc1_read (st : Stt) : Option (kc1_U × va_V) := kc1_rd (kc1_cok st && (staysA [] [32, 31, 0] st.own && juAll [0, 11, 12, 13, 14, 15, 16, 17, 18, 19, 20, 21, 22, 23, 24, 25, 26, 27, 28, 29, 30, 31, 32, 33, 34, 35, 36, 37, 38, 39, 40, 41, 42, 43, 44, 45, 46, 47, 48, 49, 50, 51, 52, 53, 54, 55, 56, 57, 58, 59, 60, 61, 62, 63, 64, 65, 66, 67, 68, 69, 70, 71, 72, 73, 74, 75, 76, 77, 78, 79, 80, 81, 82, 83, 84, 85, 86, 87, 88, 89, 90, 91, 92, 93, 94, 95, 96, 97, 98, 99, 100, 101, 102, 103, 104, 105, 106, 107, 108, 109, 110, 111, 112, 113, 114, 115, 116, 117, 118, 119, 120, 121, 122, 123, 124, 125, 126] (kc1_can st).tm 127)) (kc1_can st).tm[1]? (kc1_can st).tm[2]? (kc1_can st).tm[3]? (kc1_can st).tm[4]? (kc1_can st).tm[5]? (kc1_can st).tm[6]? (kc1_can st).tm[7]? (kc1_can st).tm[8]? (kc1_can st).tm[9]? (kc1_can st).tm[10]? (kc1_can st).own
set_option maxRecDepth 100000 in
set_option maxHeartbeats 4000000 in
theorem kc1_rd_ok {b : Bool} {tm : List AV} {own : Own} {u : kc1_U} {v : va_V} (hj : b = true → juAll [0, 11, 12, 13, 14, 15, 16, 17, 18, 19, 20, 21, 22, 23, 24, 25, 26, 27, 28, 29, 30, 31, 32, 33, 34, 35, 36, 37, 38, 39, 40, 41, 42, 43, 44, 45, 46, 47, 48, 49, 50, 51, 52, 53, 54, 55, 56, 57, 58, 59, 60, 61, 62, 63, 64, 65, 66, 67, 68, 69, 70, 71, 72, 73, 74, 75, 76, 77, 78, 79, 80, 81, 82, 83, 84, 85, 86, 87, 88, 89, 90, 91, 92, 93, 94, 95, 96, 97, 98, 99, 100, 101, 102, 103, 104, 105, 106, 107, 108, 109, 110, 111, 112, 113, 114, 115, 116, 117, 118, 119, 120, 121, 122, 123, 124, 125, 126] tm 127 = true) (h : kc1_rd b tm[1]? tm[2]? tm[3]? tm[4]? tm[5]? tm[6]? tm[7]? tm[8]? tm[9]? tm[10]? own = some (u, v)) : b = true ∧ tm = (kc1_St u v).tm ∧ own = (kc1_St u v).own := by
  unfold kc1_rd at h
  obtain ⟨rfl, h0⟩ := zrT_some h
  obtain ⟨za1, e1, h1⟩ := zrO_some h0
  obtain ⟨zc2, rfl, h2⟩ := zrA1_some h1
  obtain ⟨rfl, h3⟩ := zrP_some h2
  obtain ⟨za3, e2, h4⟩ := zrO_some h3
  obtain ⟨zc4, rfl, h5⟩ := zrA1_some h4
  obtain ⟨q0, rfl, h6⟩ := zrB_some h5
  obtain ⟨za5, e3, h7⟩ := zrO_some h6
  obtain ⟨zc6, rfl, h8⟩ := zrA1_some h7
  obtain ⟨rfl, h9⟩ := zrP_some h8
  obtain ⟨za7, e4, h10⟩ := zrO_some h9
  obtain ⟨zc8, rfl, h11⟩ := zrA1_some h10
  obtain ⟨rfl, h12⟩ := zrP_some h11
  obtain ⟨za9, e5, h13⟩ := zrO_some h12
  obtain ⟨zc10, rfl, h14⟩ := zrA1_some h13
  obtain ⟨q1, rfl, h15⟩ := zrI_some h14
  obtain ⟨za11, e6, h16⟩ := zrO_some h15
  obtain ⟨zc12, rfl, h17⟩ := zrA1_some h16
  obtain ⟨q2, rfl, h18⟩ := zrI_some h17
  obtain ⟨za13, e7, h19⟩ := zrO_some h18
  obtain ⟨zc14, rfl, h20⟩ := zrA1_some h19
  obtain ⟨q3, rfl, h21⟩ := zrD_some h20
  obtain ⟨za15, e8, h22⟩ := zrO_some h21
  obtain ⟨zc16, rfl, h23⟩ := zrA1_some h22
  obtain ⟨q4, rfl, h24⟩ := zrI_some h23
  obtain ⟨za17, e9, h25⟩ := zrO_some h24
  obtain ⟨zc18, rfl, h26⟩ := zrA1_some h25
  obtain ⟨q5, rfl, h27⟩ := zrB_some h26
  obtain ⟨za19, e10, h28⟩ := zrO_some h27
  obtain ⟨zc20, rfl, h29⟩ := zrA1_some h28
  obtain ⟨q6, rfl, h30⟩ := zrI_some h29
  obtain ⟨zq21, zw22, rfl, h31⟩ := zrL_some h30
  obtain ⟨zk23, rfl, h32⟩ := zrKey_some h31
  obtain ⟨zl24, rfl, h33⟩ := zrC_some h32
  obtain ⟨zc25, zr26, rfl, h34⟩ := zrL_some h33
  obtain ⟨q7, rfl, h35⟩ := zrD_some h34
  obtain ⟨rfl, h36⟩ := zrN_some h35
  obtain ⟨zq27, zw28, rfl, h37⟩ := zrL_some h36
  obtain ⟨zk29, rfl, h38⟩ := zrKey_some h37
  obtain ⟨zl30, rfl, h39⟩ := zrC_some h38
  obtain ⟨zc31, zr32, rfl, h40⟩ := zrL_some h39
  obtain ⟨q8, rfl, h41⟩ := zrD_some h40
  obtain ⟨rfl, h42⟩ := zrN_some h41
  obtain ⟨zq33, zw34, rfl, h43⟩ := zrL_some h42
  obtain ⟨zk35, rfl, h44⟩ := zrKey_some h43
  obtain ⟨zl36, rfl, h45⟩ := zrC_some h44
  obtain ⟨zc37, zr38, rfl, h46⟩ := zrL_some h45
  obtain ⟨q9, rfl, h47⟩ := zrD_some h46
  obtain ⟨zc39, zr40, rfl, h48⟩ := zrL_some h47
  obtain ⟨q10, rfl, h49⟩ := zrI_some h48
  obtain ⟨zc41, zr42, rfl, h50⟩ := zrL_some h49
  obtain ⟨q11, rfl, h51⟩ := zrI_some h50
  obtain ⟨zc43, zr44, rfl, h52⟩ := zrL_some h51
  obtain ⟨q12, rfl, h53⟩ := zrI_some h52
  obtain ⟨rfl, h54⟩ := zrN_some h53
  obtain ⟨rfl, h55⟩ := zrN_some h54
  have h := Option.some.inj h55
  have hu := congrArg Prod.fst h
  have hv := congrArg Prod.snd h
  dsimp only at hu hv
  subst hu
  subst hv
  exact ⟨rfl, (tm_fill (hj rfl) (Lv := [(1, .one (.p 0 0)), (2, .one (.v false (.bool q0))), (3, .one (.p 31 0)), (4, .one (.p 32 0)), (5, .one (.v false (.int .i64 q1))), (6, .one (.v false (.int .i64 q2))), (7, .one (.d false false (.prod (.int .i64) (.int .i64)) q3)), (8, .one (.v false (.int .i64 q4))), (9, .one (.v false (.bool q5))), (10, .one (.v false (.int .i64 q6)))]) (by kernel_rfl) ⟨e1, e2, e3, e4, e5, e6, e7, e8, e9, e10, trivial⟩).trans (by kernel_rfl), rfl⟩
theorem kc1_read_ok (st : Stt) (u : kc1_U) (v : va_V) (h : kc1_read st = some (u, v)) : kc1_cok st = true ∧ staysA [] [32, 31, 0] st.own = true ∧ kc1_can st = kc1_St u v := by
  obtain ⟨h1, h2, h3⟩ := kc1_rd_ok (fun hb => by rw [Bool.and_eq_true, Bool.and_eq_true] at hb; exact hb.2.2) h
  rw [Bool.and_eq_true, Bool.and_eq_true] at h1
  refine ⟨h1.1, h1.2.1, ?_⟩
  have e : kc1_can st = ⟨(kc1_can st).tm, (kc1_can st).own, 2064⟩ := by kernel_rfl
  rw [e, h2, h3]
  rfl
noncomputable def kc1_cond (u : kc1_U) (v : va_V) : Bool := runC (kc1_step u) v
noncomputable def kc1_g (u : kc1_U) (v : va_V) : Nat × va_V := runG (kc1_step u) v
theorem kc1_hg : ∀ (u : kc1_U) (v : va_V), kc1_cond u v = true → loopN (kc1_step u) ((fun u v => runF (kc1_step u) v) u v) v = some (kc1_g u v) := by
  exact fun u v h => run_hg h
noncomputable def kc1_m (st : Stt) : Option (Tr (Ex × Stt)) := sumM kc1_read kc1_cond kc1_St kc1_g [(0, .exit 2)] st
noncomputable def skC_L51 : FuncId → Loops := addL 9 [0, 1, 0, 1, 0, 0, 1, 0, 0, 1, 0, 1, 1, 1, 1, 1] kc1_m rgE_L56
set_option maxRecDepth 100000 in
set_option maxHeartbeats 4000000 in
theorem skC_L51_ok : LoopsOK Try.prog skC_L51 :=
  loop_sumF (body := (bodyOf Try.prog 9)) (c := (loopOf (bodyOf Try.prog 9) [1, 1, 1, 1, 1, 0, 1, 0, 0, 1, 0, 0, 1, 0, 1, 0])) (kinds := [.exit 2]) (allow := [(0, .exit 2)]) (St := kc1_St) (step := kc1_step) (W := [0, 11, 12, 13, 14, 15, 16, 17, 18, 19, 20, 21, 22, 23, 24, 25, 26, 27, 28, 29, 30, 31, 32, 33, 34, 35, 36, 37, 38, 39, 40, 41, 42, 43, 44, 45, 46, 47, 48, 49, 50, 51, 52, 53, 54, 55, 56, 57, 58, 59, 60, 61, 62, 63, 64, 65, 66, 67, 68, 69, 70, 71, 72, 73, 74, 75, 76, 77, 78, 79, 80, 81, 82, 83, 84, 85, 86, 87, 88, 89, 90, 91, 92, 93, 94, 95, 96, 97, 98, 99, 100, 101, 102, 103, 104, 105, 106, 107, 108, 109, 110, 111, 112, 113, 114, 115, 116, 117, 118, 119, 120, 121, 122, 123, 124, 125, 126]) (As := []) (ks := [32, 31, 0]) (dd := []) (nx := 2064) (n := 100000) (g := kc1_g) (cond := kc1_cond) (fuel := (fun u v => runF (kc1_step u) v)) (read := kc1_read) (by kernel_rfl) (rgE_S58_ok) (rgE_L56_ok) 7 ⟨Try.f9, by kernel_rfl, by kernel_rfl⟩ (by kernel_rfl) (by kernel_rfl) (by kernel_rfl) kc1_step_eq kc1_hg kc1_read_ok
abbrev kc0_U : Type := Int × Int × (Ty.list (.prod (.int .i64) (.int .i64))).den × (Ty.list (.prod (.int .i64) (.list (.prod (.int .i64) (.int .i64))))).den × (Ty.list (.prod (.int .i64) (.list (.prod (.int .i64) (.int .i64))))).den × (Ty.list (.list (.prod (.int .i64) (.list (.prod (.int .i64) (.int .i64)))))).den × Int × Int × Int
noncomputable def kc0_St (u : kc0_U) (v : va_V) : Stt := ⟨[.one .junk, .one (.p 0 0), .one (.v false (.bool v.1)), .one (.p 31 0), .one (.p 32 0), .one (.v false (.int .i64 u.1)), .one (.v false (.int .i64 u.2.1)), .one (.d false false (.prod (.int .i64) (.int .i64)) u.2.2.1), .one (.v false (.int .i64 v.2)), .one .junk, .one .junk, .one .junk, .one .junk, .one .junk, .one .junk, .one .junk, .one .junk, .one .junk, .one .junk, .one .junk, .one .junk, .one .junk, .one .junk, .one .junk, .one .junk, .one .junk, .one .junk, .one .junk, .one .junk, .one .junk, .one .junk, .one .junk, .one .junk, .one .junk, .one .junk, .one .junk, .one .junk, .one .junk, .one .junk, .one .junk, .one .junk, .one .junk, .one .junk, .one .junk, .one .junk, .one .junk, .one .junk, .one .junk, .one .junk, .one .junk, .one .junk, .one .junk, .one .junk, .one .junk, .one .junk, .one .junk, .one .junk, .one .junk, .one .junk, .one .junk, .one .junk, .one .junk, .one .junk, .one .junk, .one .junk, .one .junk, .one .junk, .one .junk, .one .junk, .one .junk, .one .junk, .one .junk, .one .junk, .one .junk, .one .junk, .one .junk, .one .junk, .one .junk, .one .junk, .one .junk, .one .junk, .one .junk, .one .junk, .one .junk, .one .junk, .one .junk, .one .junk, .one .junk, .one .junk, .one .junk, .one .junk, .one .junk, .one .junk, .one .junk, .one .junk, .one .junk, .one .junk, .one .junk, .one .junk, .one .junk, .one .junk, .one .junk, .one .junk, .one .junk, .one .junk, .one .junk, .one .junk, .one .junk, .one .junk, .one .junk, .one .junk, .one .junk, .one .junk, .one .junk, .one .junk, .one .junk, .one .junk, .one .junk, .one .junk, .one .junk, .one .junk, .one .junk, .one .junk, .one .junk, .one .junk, .one .junk, .one .junk], [(32, .cells [.d false false (.prod (.int .i64) (.list (.prod (.int .i64) (.int .i64)))) u.2.2.2.1]), (31, .cells [.d false false (.prod (.int .i64) (.list (.prod (.int .i64) (.int .i64)))) u.2.2.2.2.1]), (0, .cells [.d false false (.list (.prod (.int .i64) (.list (.prod (.int .i64) (.int .i64))))) u.2.2.2.2.2.1, .v false (.int .i64 u.2.2.2.2.2.2.1), .v false (.int .i64 u.2.2.2.2.2.2.2.1), .v false (.int .i64 u.2.2.2.2.2.2.2.2)])], 1054⟩
noncomputable def kc0_step (u : kc0_U) (v : va_V) : Tr (va_V ⊕ (Nat × va_V)) :=
  match u, v with
  | (q1, q2, q3, q5, q6, q7, q8, q9, q10), (q0, q4) => .br (decide (q4 < (↑(List.length q3) : Int))) (.br (kc1_cond (q0, q1, q2, q3, q4, q5, q6, q7, q8, q9, q10) (true, IntKind.wrap .i64 (q8 - q2))) (.br (Nat.beq (Prod.fst (kc1_g (q0, q1, q2, q3, q4, q5, q6, q7, q8, q9, q10) (true, IntKind.wrap .i64 (q8 - q2)))) (0 : Nat)) (.br (decide ((0 : Int) ≤ q4) && decide (q4 < (↑(List.length q3) : Int))) (.br (szG q6) (.br ((valGB q6 && memG q6 (Prod.fst (el_ii q3 q4)) (Prod.snd (el_ii q3 q4))) == Prod.fst (Prod.snd (kc1_g (q0, q1, q2, q3, q4, q5, q6, q7, q8, q9, q10) (true, IntKind.wrap .i64 (q8 - q2))))) (.ret (.inr (0, (false, q4)))) (.br (decide ((0 : Int) ≤ q4) && decide (q4 < (↑(List.length q3) : Int))) (.br (szG q5) (.br (!(valGB q5 && memG q5 (Prod.fst (el_ii q3 q4)) (Prod.snd (el_ii q3 q4))) == Prod.fst (Prod.snd (kc1_g (q0, q1, q2, q3, q4, q5, q6, q7, q8, q9, q10) (true, IntKind.wrap .i64 (q8 - q2))))) (.ret (.inr (0, (false, q4)))) (.ret (.inl (q0, IntKind.wrap .i64 (q4 + (1 : Int)))))) (.bad 900)) (.bad 29))) (.bad 900)) (.bad 29)) (.bad 902)) (.bad 901)) (.ret (.inr (1, (q0, q4))))
set_option maxRecDepth 100000 in
set_option maxHeartbeats 4000000 in
theorem kc0_step_eq : ∀ (u : kc0_U) (v : va_V), (evalC Try.prog (evalB Try.prog rgE_S58 (opens []) skC_L51 7).1 (evalB Try.prog rgE_S58 (opens []) skC_L51 7).2 (opens []) (skC_L51 9) 100000 (0 :: [0, 1, 0, 1, 1, 1, 1, 1]) (loopOf (bodyOf Try.prog 9) [1, 1, 1, 1, 1, 0, 1, 0]) (kc0_St u v) []).bind (finF [0, 9, 10, 11, 12, 13, 14, 15, 16, 17, 18, 19, 20, 21, 22, 23, 24, 25, 26, 27, 28, 29, 30, 31, 32, 33, 34, 35, 36, 37, 38, 39, 40, 41, 42, 43, 44, 45, 46, 47, 48, 49, 50, 51, 52, 53, 54, 55, 56, 57, 58, 59, 60, 61, 62, 63, 64, 65, 66, 67, 68, 69, 70, 71, 72, 73, 74, 75, 76, 77, 78, 79, 80, 81, 82, 83, 84, 85, 86, 87, 88, 89, 90, 91, 92, 93, 94, 95, 96, 97, 98, 99, 100, 101, 102, 103, 104, 105, 106, 107, 108, 109, 110, 111, 112, 113, 114, 115, 116, 117, 118, 119, 120, 121, 122, 123, 124, 125, 126] [] [32, 31, 0] [] 1054) = (kc0_step u v).bind (outA (kc0_St u) [.ret, .exit 0]) := by
  rintro ⟨q1, q2, q3, q5, q6, q7, q8, q9, q10⟩ ⟨q0, q4⟩
  kernel_rfl
noncomputable def kc0_rd (b : Bool) (o1 : Option AV) (o2 : Option AV) (o3 : Option AV) (o4 : Option AV) (o5 : Option AV) (o6 : Option AV) (o7 : Option AV) (o8 : Option AV) (own : Own) : Option (kc0_U × va_V) := zrT b <| zrO o1 fun za1 => zrA1 za1 fun zc2 => zrP 0 0 zc2 <| zrO o2 fun za3 => zrA1 za3 fun zc4 => zrB zc4 fun q0 => zrO o3 fun za5 => zrA1 za5 fun zc6 => zrP 31 0 zc6 <| zrO o4 fun za7 => zrA1 za7 fun zc8 => zrP 32 0 zc8 <| zrO o5 fun za9 => zrA1 za9 fun zc10 => zrI .i64 zc10 fun q1 => zrO o6 fun za11 => zrA1 za11 fun zc12 => zrI .i64 zc12 fun q2 => zrO o7 fun za13 => zrA1 za13 fun zc14 => zrD (.prod (.int .i64) (.int .i64)) zc14 fun q3 => zrO o8 fun za15 => zrA1 za15 fun zc16 => zrI .i64 zc16 fun q4 => zrL own fun zq17 zw18 => zrKey 32 zq17 fun zk19 => zrC zk19 fun zl20 => zrL zl20 fun zc21 zr22 => zrD (.prod (.int .i64) (.list (.prod (.int .i64) (.int .i64)))) zc21 fun q5 => zrN zr22 <| zrL zw18 fun zq23 zw24 => zrKey 31 zq23 fun zk25 => zrC zk25 fun zl26 => zrL zl26 fun zc27 zr28 => zrD (.prod (.int .i64) (.list (.prod (.int .i64) (.int .i64)))) zc27 fun q6 => zrN zr28 <| zrL zw24 fun zq29 zw30 => zrKey 0 zq29 fun zk31 => zrC zk31 fun zl32 => zrL zl32 fun zc33 zr34 => zrD (.list (.prod (.int .i64) (.list (.prod (.int .i64) (.int .i64))))) zc33 fun q7 => zrL zr34 fun zc35 zr36 => zrI .i64 zc35 fun q8 => zrL zr36 fun zc37 zr38 => zrI .i64 zc37 fun q9 => zrL zr38 fun zc39 zr40 => zrI .i64 zc39 fun q10 => zrN zr40 <| zrN zw30 <| some ((q1, q2, q3, q5, q6, q7, q8, q9, q10), (q0, q4))
noncomputable def kc0_can (st : Stt) : Stt := canA [0, 9, 10, 11, 12, 13, 14, 15, 16, 17, 18, 19, 20, 21, 22, 23, 24, 25, 26, 27, 28, 29, 30, 31, 32, 33, 34, 35, 36, 37, 38, 39, 40, 41, 42, 43, 44, 45, 46, 47, 48, 49, 50, 51, 52, 53, 54, 55, 56, 57, 58, 59, 60, 61, 62, 63, 64, 65, 66, 67, 68, 69, 70, 71, 72, 73, 74, 75, 76, 77, 78, 79, 80, 81, 82, 83, 84, 85, 86, 87, 88, 89, 90, 91, 92, 93, 94, 95, 96, 97, 98, 99, 100, 101, 102, 103, 104, 105, 106, 107, 108, 109, 110, 111, 112, 113, 114, 115, 116, 117, 118, 119, 120, 121, 122, 123, 124, 125, 126] [] [32, 31, 0] [] 1054 st
noncomputable def kc0_cok (st : Stt) : Bool := canAok [0, 9, 10, 11, 12, 13, 14, 15, 16, 17, 18, 19, 20, 21, 22, 23, 24, 25, 26, 27, 28, 29, 30, 31, 32, 33, 34, 35, 36, 37, 38, 39, 40, 41, 42, 43, 44, 45, 46, 47, 48, 49, 50, 51, 52, 53, 54, 55, 56, 57, 58, 59, 60, 61, 62, 63, 64, 65, 66, 67, 68, 69, 70, 71, 72, 73, 74, 75, 76, 77, 78, 79, 80, 81, 82, 83, 84, 85, 86, 87, 88, 89, 90, 91, 92, 93, 94, 95, 96, 97, 98, 99, 100, 101, 102, 103, 104, 105, 106, 107, 108, 109, 110, 111, 112, 113, 114, 115, 116, 117, 118, 119, 120, 121, 122, 123, 124, 125, 126] [] [32, 31, 0] [] 1054 st
noncomputable def kc0_read (st : Stt) : Option (kc0_U × va_V) := kc0_rd (kc0_cok st && (staysA [] [32, 31, 0] st.own && juAll [0, 9, 10, 11, 12, 13, 14, 15, 16, 17, 18, 19, 20, 21, 22, 23, 24, 25, 26, 27, 28, 29, 30, 31, 32, 33, 34, 35, 36, 37, 38, 39, 40, 41, 42, 43, 44, 45, 46, 47, 48, 49, 50, 51, 52, 53, 54, 55, 56, 57, 58, 59, 60, 61, 62, 63, 64, 65, 66, 67, 68, 69, 70, 71, 72, 73, 74, 75, 76, 77, 78, 79, 80, 81, 82, 83, 84, 85, 86, 87, 88, 89, 90, 91, 92, 93, 94, 95, 96, 97, 98, 99, 100, 101, 102, 103, 104, 105, 106, 107, 108, 109, 110, 111, 112, 113, 114, 115, 116, 117, 118, 119, 120, 121, 122, 123, 124, 125, 126] (kc0_can st).tm 127)) (kc0_can st).tm[1]? (kc0_can st).tm[2]? (kc0_can st).tm[3]? (kc0_can st).tm[4]? (kc0_can st).tm[5]? (kc0_can st).tm[6]? (kc0_can st).tm[7]? (kc0_can st).tm[8]? (kc0_can st).own
set_option maxRecDepth 100000 in
set_option maxHeartbeats 4000000 in
theorem kc0_rd_ok {b : Bool} {tm : List AV} {own : Own} {u : kc0_U} {v : va_V} (hj : b = true → juAll [0, 9, 10, 11, 12, 13, 14, 15, 16, 17, 18, 19, 20, 21, 22, 23, 24, 25, 26, 27, 28, 29, 30, 31, 32, 33, 34, 35, 36, 37, 38, 39, 40, 41, 42, 43, 44, 45, 46, 47, 48, 49, 50, 51, 52, 53, 54, 55, 56, 57, 58, 59, 60, 61, 62, 63, 64, 65, 66, 67, 68, 69, 70, 71, 72, 73, 74, 75, 76, 77, 78, 79, 80, 81, 82, 83, 84, 85, 86, 87, 88, 89, 90, 91, 92, 93, 94, 95, 96, 97, 98, 99, 100, 101, 102, 103, 104, 105, 106, 107, 108, 109, 110, 111, 112, 113, 114, 115, 116, 117, 118, 119, 120, 121, 122, 123, 124, 125, 126] tm 127 = true) (h : kc0_rd b tm[1]? tm[2]? tm[3]? tm[4]? tm[5]? tm[6]? tm[7]? tm[8]? own = some (u, v)) : b = true ∧ tm = (kc0_St u v).tm ∧ own = (kc0_St u v).own := by
  unfold kc0_rd at h
  obtain ⟨rfl, h0⟩ := zrT_some h
  obtain ⟨za1, e1, h1⟩ := zrO_some h0
  obtain ⟨zc2, rfl, h2⟩ := zrA1_some h1
  obtain ⟨rfl, h3⟩ := zrP_some h2
  obtain ⟨za3, e2, h4⟩ := zrO_some h3
  obtain ⟨zc4, rfl, h5⟩ := zrA1_some h4
  obtain ⟨q0, rfl, h6⟩ := zrB_some h5
  obtain ⟨za5, e3, h7⟩ := zrO_some h6
  obtain ⟨zc6, rfl, h8⟩ := zrA1_some h7
  obtain ⟨rfl, h9⟩ := zrP_some h8
  obtain ⟨za7, e4, h10⟩ := zrO_some h9
  obtain ⟨zc8, rfl, h11⟩ := zrA1_some h10
  obtain ⟨rfl, h12⟩ := zrP_some h11
  obtain ⟨za9, e5, h13⟩ := zrO_some h12
  obtain ⟨zc10, rfl, h14⟩ := zrA1_some h13
  obtain ⟨q1, rfl, h15⟩ := zrI_some h14
  obtain ⟨za11, e6, h16⟩ := zrO_some h15
  obtain ⟨zc12, rfl, h17⟩ := zrA1_some h16
  obtain ⟨q2, rfl, h18⟩ := zrI_some h17
  obtain ⟨za13, e7, h19⟩ := zrO_some h18
  obtain ⟨zc14, rfl, h20⟩ := zrA1_some h19
  obtain ⟨q3, rfl, h21⟩ := zrD_some h20
  obtain ⟨za15, e8, h22⟩ := zrO_some h21
  obtain ⟨zc16, rfl, h23⟩ := zrA1_some h22
  obtain ⟨q4, rfl, h24⟩ := zrI_some h23
  obtain ⟨zq17, zw18, rfl, h25⟩ := zrL_some h24
  obtain ⟨zk19, rfl, h26⟩ := zrKey_some h25
  obtain ⟨zl20, rfl, h27⟩ := zrC_some h26
  obtain ⟨zc21, zr22, rfl, h28⟩ := zrL_some h27
  obtain ⟨q5, rfl, h29⟩ := zrD_some h28
  obtain ⟨rfl, h30⟩ := zrN_some h29
  obtain ⟨zq23, zw24, rfl, h31⟩ := zrL_some h30
  obtain ⟨zk25, rfl, h32⟩ := zrKey_some h31
  obtain ⟨zl26, rfl, h33⟩ := zrC_some h32
  obtain ⟨zc27, zr28, rfl, h34⟩ := zrL_some h33
  obtain ⟨q6, rfl, h35⟩ := zrD_some h34
  obtain ⟨rfl, h36⟩ := zrN_some h35
  obtain ⟨zq29, zw30, rfl, h37⟩ := zrL_some h36
  obtain ⟨zk31, rfl, h38⟩ := zrKey_some h37
  obtain ⟨zl32, rfl, h39⟩ := zrC_some h38
  obtain ⟨zc33, zr34, rfl, h40⟩ := zrL_some h39
  obtain ⟨q7, rfl, h41⟩ := zrD_some h40
  obtain ⟨zc35, zr36, rfl, h42⟩ := zrL_some h41
  obtain ⟨q8, rfl, h43⟩ := zrI_some h42
  obtain ⟨zc37, zr38, rfl, h44⟩ := zrL_some h43
  obtain ⟨q9, rfl, h45⟩ := zrI_some h44
  obtain ⟨zc39, zr40, rfl, h46⟩ := zrL_some h45
  obtain ⟨q10, rfl, h47⟩ := zrI_some h46
  obtain ⟨rfl, h48⟩ := zrN_some h47
  obtain ⟨rfl, h49⟩ := zrN_some h48
  have h := Option.some.inj h49
  have hu := congrArg Prod.fst h
  have hv := congrArg Prod.snd h
  dsimp only at hu hv
  subst hu
  subst hv
  exact ⟨rfl, (tm_fill (hj rfl) (Lv := [(1, .one (.p 0 0)), (2, .one (.v false (.bool q0))), (3, .one (.p 31 0)), (4, .one (.p 32 0)), (5, .one (.v false (.int .i64 q1))), (6, .one (.v false (.int .i64 q2))), (7, .one (.d false false (.prod (.int .i64) (.int .i64)) q3)), (8, .one (.v false (.int .i64 q4)))]) (by kernel_rfl) ⟨e1, e2, e3, e4, e5, e6, e7, e8, trivial⟩).trans (by kernel_rfl), rfl⟩
theorem kc0_read_ok (st : Stt) (u : kc0_U) (v : va_V) (h : kc0_read st = some (u, v)) : kc0_cok st = true ∧ staysA [] [32, 31, 0] st.own = true ∧ kc0_can st = kc0_St u v := by
  obtain ⟨h1, h2, h3⟩ := kc0_rd_ok (fun hb => by rw [Bool.and_eq_true, Bool.and_eq_true] at hb; exact hb.2.2) h
  rw [Bool.and_eq_true, Bool.and_eq_true] at h1
  refine ⟨h1.1, h1.2.1, ?_⟩
  have e : kc0_can st = ⟨(kc0_can st).tm, (kc0_can st).own, 1054⟩ := by kernel_rfl
  rw [e, h2, h3]
  rfl
noncomputable def kc0_cond (u : kc0_U) (v : va_V) : Bool := runC (kc0_step u) v
noncomputable def kc0_g (u : kc0_U) (v : va_V) : Nat × va_V := runG (kc0_step u) v
theorem kc0_hg : ∀ (u : kc0_U) (v : va_V), kc0_cond u v = true → loopN (kc0_step u) ((fun u v => runF (kc0_step u) v) u v) v = some (kc0_g u v) := by
  exact fun u v h => run_hg h
noncomputable def kc0_m (st : Stt) : Option (Tr (Ex × Stt)) := sumM kc0_read kc0_cond kc0_St kc0_g [(0, .ret), (1, .exit 0)] st
noncomputable def skC_L52 : FuncId → Loops := addL 9 [0, 1, 0, 1, 1, 1, 1, 1] kc0_m skC_L51
set_option maxRecDepth 100000 in
set_option maxHeartbeats 4000000 in
theorem skC_L52_ok : LoopsOK Try.prog skC_L52 :=
  loop_sumF (body := (bodyOf Try.prog 9)) (c := (loopOf (bodyOf Try.prog 9) [1, 1, 1, 1, 1, 0, 1, 0])) (kinds := [.ret, .exit 0]) (allow := [(0, .ret), (1, .exit 0)]) (St := kc0_St) (step := kc0_step) (W := [0, 9, 10, 11, 12, 13, 14, 15, 16, 17, 18, 19, 20, 21, 22, 23, 24, 25, 26, 27, 28, 29, 30, 31, 32, 33, 34, 35, 36, 37, 38, 39, 40, 41, 42, 43, 44, 45, 46, 47, 48, 49, 50, 51, 52, 53, 54, 55, 56, 57, 58, 59, 60, 61, 62, 63, 64, 65, 66, 67, 68, 69, 70, 71, 72, 73, 74, 75, 76, 77, 78, 79, 80, 81, 82, 83, 84, 85, 86, 87, 88, 89, 90, 91, 92, 93, 94, 95, 96, 97, 98, 99, 100, 101, 102, 103, 104, 105, 106, 107, 108, 109, 110, 111, 112, 113, 114, 115, 116, 117, 118, 119, 120, 121, 122, 123, 124, 125, 126]) (As := []) (ks := [32, 31, 0]) (dd := []) (nx := 1054) (n := 100000) (g := kc0_g) (cond := kc0_cond) (fuel := (fun u v => runF (kc0_step u) v)) (read := kc0_read) (by kernel_rfl) (rgE_S58_ok) (skC_L51_ok) 7 ⟨Try.f9, by kernel_rfl, by kernel_rfl⟩ (by kernel_rfl) (by kernel_rfl) (by kernel_rfl) kc0_step_eq kc0_hg kc0_read_ok
theorem allP {s1 s2 : Bool} {P : Int → Prop} {S : Prop} {l d : Int} (hl : l ≤ d) (h : s1 = true ↔ S ∧ ∀ z, l ≤ z → z < d → P z) (g : s2 = true ↔ s1 = true ∧ P d) : s2 = true ↔ S ∧ ∀ z, l ≤ z → z < d + 1 → P z := by
  rw [g, h]
  constructor
  · rintro ⟨⟨q, r⟩, p⟩
    refine ⟨q, fun z z1 z2 => ?_⟩
    by_cases e : z = d
    · subst e; exact p
    · exact r z z1 (by omega)
  · rintro ⟨q, r⟩
    exact ⟨⟨q, fun z z1 z2 => r z z1 (by omega)⟩, r d hl (by omega)⟩
theorem inr_szK {R : Rg} (r : Ty.InR (.list (.prod (.int .i64) (.list (.prod (.int .i64) (.int .i64))))) R) : szG R = true := by
  unfold szG
  have h1 : R.length ≤ maxLen := r.1
  have h2 : ∀ x ∈ R, x.2.length ≤ maxLen := fun x hx => (r.2 x hx).2.1
  unfold maxLen at h1 h2
  rw [Bool.and_eq_true, decide_eq_true_eq, List.all_eq_true]
  exact ⟨by omega, fun x hx => decide_eq_true (by have := h2 x hx; omega)⟩
theorem sm_cntK {R : Rg} (h : smG R = true) : cntV R ≤ 600 := by
  unfold smG at h
  rw [Bool.and_eq_true, Bool.and_eq_true] at h
  exact of_decide_eq_true h.2.2
theorem el_LK (L : List Rg) (i : Nat) : el_lilii L (i : Int) = L.getD i [] := elm_nat (.list (.prod (.int .i64) (.list (.prod (.int .i64) (.int .i64))))) L i
theorem lay_in {L : List Rg} {i : Nat} (h : i < L.length) (x y : Int) : (valGB (L.getD i []) && memG (L.getD i []) x y) = memG (layG L (i : Int)) x y := by
  unfold layG
  rw [decide_eq_true (show 0 ≤ (i : Int) by omega), decide_eq_true (show (i : Int) < (L.length : Int) by omega), Int.toNat_natCast]
  cases valGB (L.getD i []) <;> rfl
theorem kc1_run {b0 : Bool} {C : List (Int × Int)} {S F : Rg} {L : List Rg} {up dn I T B : Int} {j : Nat} (hj : j < C.length) (hz : ∀ i, szG (L.getD i []) = true) (hn : L.length ≤ 12) (hI : 0 ≤ I ∧ I < (L.length : Int)) (u0 : 0 ≤ up ∧ up ≤ 20) (d0 : 0 ≤ dn ∧ dn ≤ 20) :
    kc1_cond (b0, up, dn, C, (j : Int), S, F, L, I, T, B) (true, I - dn) = true ∧ (kc1_g (b0, up, dn, C, (j : Int), S, F, L, I, T, B) (true, I - dn)).1 = 0 ∧ ((kc1_g (b0, up, dn, C, (j : Int), S, F, L, I, T, B) (true, I - dn)).2.1 = true ↔ True ∧ ∀ i, I - dn ≤ i → i < I + up + 1 → memG (layG L i) C[j].1 C[j].2 = true) := by
  have hj0 := lt_t hj
  have w0 : IntKind.wrap .i64 (I + up) = I + up := wid (by omega) (by omega)
  refine run_val (step := kc1_step (b0, up, dn, C, (j : Int), S, F, L, I, T, B)) (Inv := fun v => ∃ (s1 : Bool) (d : Int), v = (s1, d) ∧ I - dn ≤ d ∧ d ≤ I + up + 1 ∧ (s1 = true ↔ True ∧ ∀ i, I - dn ≤ i → i < d → memG (layG L i) C[j].1 C[j].2 = true)) (μ := fun v => (I + up + 1 - v.2).toNat) (Q := fun t => t.1 = 0 ∧ (t.2.1 = true ↔ True ∧ ∀ i, I - dn ≤ i → i < I + up + 1 → memG (layG L i) C[j].1 C[j].2 = true)) ?_ _ _ (Nat.lt_succ_self _) ⟨true, _, rfl, Int.le_refl _, by omega, ⟨fun _ => ⟨trivial, fun i h1 h2 => by omega⟩, fun _ => rfl⟩⟩
  rintro v ⟨s1, d, rfl, e0, e1, i1⟩
  by_cases g : d ≤ I + up
  · have w3 : IntKind.wrap .i64 (d + (1 : Int)) = d + 1 := wid (by omega) (by omega)
    refine ⟨.inl ((s1 && memG (layG L d) C[j].1 C[j].2), d + 1), ?_, ⟨_, _, rfl, by omega, by omega, allP e0 i1 (by rw [Bool.and_eq_true])⟩, by show (I + up + 1 - (d + 1)).toNat < (I + up + 1 - d).toNat; omega⟩
    cases s1
    · simp only [kc1_step, Tr.val, w0, decide_eq_true g, w3, Bool.false_and, cond_true, cond_false]
    · by_cases q : 0 ≤ d ∧ d < (L.length : Int)
      · obtain ⟨i, rfl⟩ : ∃ i : Nat, d = (i : Int) := ⟨d.toNat, by omega⟩
        have hi : i < L.length := by omega
        have c0 : decide ((i : Int) ≥ (0 : Int)) = true := decide_eq_true (by omega)
        have hm := lay_in hi C[j].1 C[j].2
        simp only [kc1_step, Tr.val, w0, decide_eq_true g, w3, c0, lt_t hi, hj0, nn_t, el_LK, el_r hj, hz, hm, Bool.true_and, Bool.and_self, cond_true, cond_false]
      · have e : layG L d = [] := layG_out (by omega)
        have c : (bif decide (d ≥ (0 : Int)) then decide (d < (L.length : Int)) else false) = false := by
          by_cases a : d ≥ 0
          · rw [decide_eq_true a, decide_eq_false (show ¬ d < (L.length : Int) by omega)]; rfl
          · rw [decide_eq_false a]; rfl
        simp only [kc1_step, Tr.val, w0, decide_eq_true g, w3, c, e, memG_nil, Bool.and_false, cond_true, cond_false]
  · have : d = I + up + 1 := by omega
    subst this
    exact ⟨.inr (0, (s1, I + up + 1)), by simp only [kc1_step, Tr.val, w0, decide_eq_false g, cond_false], rfl, i1⟩
theorem deep_iff {L : List Rg} {I T B up dn x y : Int} (hn : L.length ≤ 12) (hI : 0 ≤ I ∧ I < (L.length : Int)) (hu : up = max 0 (min T 20)) (hd : dn = max 0 (min B 20)) : (∀ i, I - dn ≤ i → i < I + up + 1 → memG (layG L i) x y = true) ↔ memG (skS L I T B) x y = true := by
  rw [skS_mem]
  have out : ∀ i, (i < 0 ∨ (L.length : Int) ≤ i) → memG (layG L i) x y = true → False := fun i h e => by
    rw [layG_out h, memG_nil] at e; cases e
  unfold skN
  constructor
  · intro h
    refine ⟨h I (by omega) (by omega), fun k hk => h _ (by omega) (by omega), fun k hk => h _ (by omega) (by omega)⟩
  · rintro ⟨h0, h1, h2⟩ i i1 i2
    rcases Int.lt_trichotomy i I with c | c | c
    · by_cases q : I - 1 - i < min B (L.length : Int)
      · have := h2 (I - 1 - i).toNat (by omega)
        rwa [show I - 1 - (((I - 1 - i).toNat : Nat) : Int) = i by omega] at this
      · have := h2 (L.length - 1) (by omega)
        exact (out _ (by omega) this).elim
    · rw [c]; exact h0
    · by_cases q : i - I - 1 < min T (L.length : Int)
      · have := h1 (i - I - 1).toNat (by omega)
        rwa [show I + 1 + (((i - I - 1).toNat : Nat) : Int) = i by omega] at this
      · have := h1 (L.length - 1) (by omega)
        exact (out _ (by omega) this).elim
theorem kc0_run {C : List (Int × Int)} {L : List Rg} {up dn I T B : Int} (hz : ∀ i, szG (L.getD i []) = true) (hn : L.length ≤ 12) (hI : 0 ≤ I ∧ I < (L.length : Int)) (hu : up = max 0 (min T 20)) (hd : dn = max 0 (min B 20)) (hc : C.length ≤ 50000) (hC : ∀ p ∈ C, memG (layG L I) p.1 p.2 = true) :
    kc0_cond (up, dn, C, skS L I T B, skF L I T B, L, I, T, B) (false, 0) = true ∧ kc0_g (up, dn, C, skS L I T B, skF L I T B, L, I, T, B) (false, 0) = (1, (false, (C.length : Int))) := by
  have sS : szG (skS L I T B) = true := val_sz (skS_val L I T B)
  have sF : szG (skF L I T B) = true := val_sz (skF_val L I T B)
  have vS : valGB (skS L I T B) = true := valGB_t (skS_val L I T B)
  have vF : valGB (skF L I T B) = true := valGB_t (skF_val L I T B)
  have w1 : IntKind.wrap .i64 (I - dn) = I - dn := wid (by omega) (by omega)
  have R1 := run_steps (step := kc0_step (up, dn, C, skS L I T B, skF L I T B, L, I, T, B)) (St := fun j => (false, (j : Int))) (n := C.length) (t := (1, (false, (C.length : Int)))) (by
    simp only [kc0_step, Tr.val, Int.lt_irrefl, decide_false, cond_false]) C.length 0 (Nat.zero_add _) (fun j _ hj => by
    obtain ⟨v1, v2, v3⟩ := kc1_run (b0 := false) (S := skS L I T B) (F := skF L I T B) (T := T) (B := B) (up := up) (dn := dn) hj hz hn hI (by omega) (by omega)
    have key : ∀ nb : Bool, (nb = true ↔ True ∧ ∀ i, I - dn ≤ i → i < I + up + 1 → memG (layG L i) C[j].1 C[j].2 = true) → ((true && memG (skF L I T B) C[j].1 C[j].2) == nb) = false ∧ ((true && memG (skS L I T B) C[j].1 C[j].2) == nb) = true := fun nb hq => by
      have hS : memG (skS L I T B) C[j].1 C[j].2 = nb := by rw [Bool.eq_iff_iff, ← deep_iff hn hI hu hd, hq, true_and]
      have hF : memG (skF L I T B) C[j].1 C[j].2 = !nb := by rw [skF_mem, hC _ (List.getElem_mem hj), hS, Bool.true_and]
      rw [hS, hF]
      cases nb <;> exact ⟨rfl, rfl⟩
    obtain ⟨k1, k2⟩ := key _ v3
    simp only [kc0_step, Tr.val, lt_t hj, nn_t, el_r hj, w1, v1, v2, Nat.beq, sS, sF, vS, vF, k1, k2, Bool.not_true, wi1 hj (show (C.length : Int) ≤ 9223372036854775806 by omega), Bool.and_self, cond_true, cond_false])
  exact R1
set_option maxRecDepth 100000 in
theorem law_SkinCovers_tree (L : (Ty.list (.list (.prod (.int .i64) (.list (.prod (.int .i64) (.int .i64)))))).den) (I : Int) (T : Int) (B : Int) : evalF Try.prog rgE_S58 (opens []) skC_L52 9 9 [.ag [.d false false (.list (.prod (.int .i64) (.list (.prod (.int .i64) (.int .i64))))) L, .v false (.int .i64 I), .v false (.int .i64 T), .v false (.int .i64 B)]] = .br ((bif bif bif !smL L then true else decide (I < (0 : Int)) then true else decide (I ≥ (↑(List.length L) : Int)) then true else ((szL L) && ((decide ((0 : Int) ≤ I) && decide (I < (↑(List.length L) : Int))) && ((szG (el_lilii L I) && decide (cntV (el_lilii L I) ≤ (9000 : Int))) && ((kc0_cond (if (if (20 : Int) < T then (20 : Int) else T) > (0 : Int) then if (20 : Int) < T then (20 : Int) else T else (0 : Int), if (if (20 : Int) < B then (20 : Int) else B) > (0 : Int) then if (20 : Int) < B then (20 : Int) else B else (0 : Int), celV (el_lilii L I), skS L I T B, skF L I T B, L, I, T, B) (false, (0 : Int))) && (bif Nat.beq (Prod.fst (kc0_g (if (if (20 : Int) < T then (20 : Int) else T) > (0 : Int) then if (20 : Int) < T then (20 : Int) else T else (0 : Int), if (if (20 : Int) < B then (20 : Int) else B) > (0 : Int) then if (20 : Int) < B then (20 : Int) else B else (0 : Int), celV (el_lilii L I), skS L I T B, skF L I T B, L, I, T, B) (false, (0 : Int)))) (0 : Nat) then true else ((Nat.beq (Prod.fst (kc0_g (if (if (20 : Int) < T then (20 : Int) else T) > (0 : Int) then if (20 : Int) < T then (20 : Int) else T else (0 : Int), if (if (20 : Int) < B then (20 : Int) else B) > (0 : Int) then if (20 : Int) < B then (20 : Int) else B else (0 : Int), celV (el_lilii L I), skS L I T B, skF L I T B, L, I, T, B) (false, (0 : Int)))) (1 : Nat)) && ((szG (skF L I T B)) && (szG (skS L I T B))))))))))) (.ret (.one (.v false (.bool (bif bif bif !smL L then true else decide (I < (0 : Int)) then true else decide (I ≥ (↑(List.length L) : Int)) then true else bif Nat.beq (Prod.fst (kc0_g (if (if (20 : Int) < T then (20 : Int) else T) > (0 : Int) then if (20 : Int) < T then (20 : Int) else T else (0 : Int), if (if (20 : Int) < B then (20 : Int) else B) > (0 : Int) then if (20 : Int) < B then (20 : Int) else B else (0 : Int), celV (el_lilii L I), skS L I T B, skF L I T B, L, I, T, B) (false, (0 : Int)))) (0 : Nat) then Prod.fst (Prod.snd (kc0_g (if (if (20 : Int) < T then (20 : Int) else T) > (0 : Int) then if (20 : Int) < T then (20 : Int) else T else (0 : Int), if (if (20 : Int) < B then (20 : Int) else B) > (0 : Int) then if (20 : Int) < B then (20 : Int) else B else (0 : Int), celV (el_lilii L I), skS L I T B, skF L I T B, L, I, T, B) (false, (0 : Int)))) else bif IntKind.wrap .i64 (cntV (skF L I T B) + cntV (skS L I T B)) == (↑(List.length (celV (el_lilii L I))) : Int) then true else false))))) (.bad 116) := by kernel_rfl
set_option maxHeartbeats 4000000 in
theorem law_SkinCovers_all (L : (Ty.list (.list (.prod (.int .i64) (.list (.prod (.int .i64) (.int .i64)))))).den) (I : Int) (T : Int) (B : Int) (r0 : Ty.InR (.prod (.list (.list (.prod (.int .i64) (.list (.prod (.int .i64) (.int .i64)))))) (.prod (.int .i64) (.prod (.int .i64) (.int .i64)))) (L, (I, (T, B))))  : Tr.all (fun r => ∃ kn, r = AV.one (.v kn (.bool true))) (.br ((bif bif bif !smL L then true else decide (I < (0 : Int)) then true else decide (I ≥ (↑(List.length L) : Int)) then true else ((szL L) && ((decide ((0 : Int) ≤ I) && decide (I < (↑(List.length L) : Int))) && ((szG (el_lilii L I) && decide (cntV (el_lilii L I) ≤ (9000 : Int))) && ((kc0_cond (if (if (20 : Int) < T then (20 : Int) else T) > (0 : Int) then if (20 : Int) < T then (20 : Int) else T else (0 : Int), if (if (20 : Int) < B then (20 : Int) else B) > (0 : Int) then if (20 : Int) < B then (20 : Int) else B else (0 : Int), celV (el_lilii L I), skS L I T B, skF L I T B, L, I, T, B) (false, (0 : Int))) && (bif Nat.beq (Prod.fst (kc0_g (if (if (20 : Int) < T then (20 : Int) else T) > (0 : Int) then if (20 : Int) < T then (20 : Int) else T else (0 : Int), if (if (20 : Int) < B then (20 : Int) else B) > (0 : Int) then if (20 : Int) < B then (20 : Int) else B else (0 : Int), celV (el_lilii L I), skS L I T B, skF L I T B, L, I, T, B) (false, (0 : Int)))) (0 : Nat) then true else ((Nat.beq (Prod.fst (kc0_g (if (if (20 : Int) < T then (20 : Int) else T) > (0 : Int) then if (20 : Int) < T then (20 : Int) else T else (0 : Int), if (if (20 : Int) < B then (20 : Int) else B) > (0 : Int) then if (20 : Int) < B then (20 : Int) else B else (0 : Int), celV (el_lilii L I), skS L I T B, skF L I T B, L, I, T, B) (false, (0 : Int)))) (1 : Nat)) && ((szG (skF L I T B)) && (szG (skS L I T B))))))))))) (.ret (.one (.v false (.bool (bif bif bif !smL L then true else decide (I < (0 : Int)) then true else decide (I ≥ (↑(List.length L) : Int)) then true else bif Nat.beq (Prod.fst (kc0_g (if (if (20 : Int) < T then (20 : Int) else T) > (0 : Int) then if (20 : Int) < T then (20 : Int) else T else (0 : Int), if (if (20 : Int) < B then (20 : Int) else B) > (0 : Int) then if (20 : Int) < B then (20 : Int) else B else (0 : Int), celV (el_lilii L I), skS L I T B, skF L I T B, L, I, T, B) (false, (0 : Int)))) (0 : Nat) then Prod.fst (Prod.snd (kc0_g (if (if (20 : Int) < T then (20 : Int) else T) > (0 : Int) then if (20 : Int) < T then (20 : Int) else T else (0 : Int), if (if (20 : Int) < B then (20 : Int) else B) > (0 : Int) then if (20 : Int) < B then (20 : Int) else B else (0 : Int), celV (el_lilii L I), skS L I T B, skF L I T B, L, I, T, B) (false, (0 : Int)))) else bif IntKind.wrap .i64 (cntV (skF L I T B) + cntV (skS L I T B)) == (↑(List.length (celV (el_lilii L I))) : Int) then true else false))))) (.bad 116)) := by
  obtain ⟨K, rfl⟩ : ∃ K : List Rg, K = L := ⟨L, rfl⟩
  have sA : ∀ x ∈ K, szG x = true := fun x hx => inr_szK (r0.1.2 x hx)
  cases hB : smL K
  · simp only [Bool.not_false, cond_true]
    exact ⟨fun _ => ⟨_, rfl⟩, fun h => by cases h⟩
  have hB' := hB
  unfold smL at hB'
  rw [Bool.and_eq_true, decide_eq_true_eq] at hB'
  have hl : K.length ≤ 12 := hB'.1
  by_cases h0 : I < 0
  · have d0 : decide (I < (0 : Int)) = true := decide_eq_true h0
    simp only [d0, Bool.not_true, cond_true, cond_false]
    exact ⟨fun _ => ⟨_, rfl⟩, fun h => by cases h⟩
  have d0 : decide (I < (0 : Int)) = false := decide_eq_false h0
  by_cases h1 : I ≥ (K.length : Int)
  · have d1 : decide (I ≥ (K.length : Int)) = true := decide_eq_true h1
    simp only [d0, d1, Bool.not_true, cond_true, cond_false]
    exact ⟨fun _ => ⟨_, rfl⟩, fun h => by cases h⟩
  have d1 : decide (I ≥ (K.length : Int)) = false := decide_eq_false h1
  obtain ⟨i, rfl⟩ : ∃ i : Nat, I = (i : Int) := ⟨I.toNat, by omega⟩
  have hi : i < K.length := by omega
  have hz : ∀ i, szG (K.getD i []) = true := fun i => by
    rw [List.getD_eq_getElem?_getD]
    cases e : K[i]? with
    | none => rfl
    | some r => exact sA r (List.mem_of_getElem? e)
  have zL : szL K = true := by
    unfold szL
    rw [Bool.and_eq_true, decide_eq_true_eq, List.all_eq_true]
    exact ⟨by omega, sA⟩
  have gi : K.getD i [] = K[i] := by rw [List.getD_eq_getElem?_getD, List.getElem?_eq_getElem hi]; rfl
  have hsm := sm_cntK (List.all_eq_true.1 hB'.2 _ (List.getElem_mem hi))
  rw [← gi] at hsm
  have dn9 : decide (cntV (K.getD i []) ≤ 9000) = true := decide_eq_true (by omega)
  have eu : (if (if (20 : Int) < T then (20 : Int) else T) > (0 : Int) then if (20 : Int) < T then (20 : Int) else T else (0 : Int)) = max 0 (min T 20) := by split <;> split <;> omega
  have eb : (if (if (20 : Int) < B then (20 : Int) else B) > (0 : Int) then if (20 : Int) < B then (20 : Int) else B else (0 : Int)) = max 0 (min B 20) := by split <;> split <;> omega
  have eC : celV (K.getD i []) = celG (layG K (i : Int)) := by
    unfold celV layG
    rw [decide_eq_true (show 0 ≤ (i : Int) by omega), decide_eq_true (show (i : Int) < (K.length : Int) by omega), Int.toNat_natCast]
    cases valGB (K.getD i []) <;> rfl
  have hlay := layG_val K (i : Int)
  have hlen := celG_len hlay
  have eL : cntG (layG K (i : Int)) = cntV (K.getD i []) := by
    unfold cntV layG
    rw [decide_eq_true (show 0 ≤ (i : Int) by omega), decide_eq_true (show (i : Int) < (K.length : Int) by omega), Int.toNat_natCast]
    cases valGB (K.getD i []) <;> rfl
  obtain ⟨v1, v2⟩ := kc0_run (C := celG (layG K (i : Int))) (T := T) (B := B) hz hl ⟨by omega, by omega⟩ rfl rfl (by omega) fun p hp => celG_mem.1 hp
  have part := cntG_part (C := layG K (i : Int)) (skF_val K (i : Int) T B) (skS_val K (i : Int) T B) hlay (fun x y => by
    rw [skF_mem]
    cases hS : memG (skS K (i : Int) T B) x y
    · simp
    · rw [sk_sub K (i : Int) T B x y hS]; rfl) fun x y => by
    rw [skF_mem]
    cases memG (skS K (i : Int) T B) x y <;> simp
  have eF : cntV (skF K (i : Int) T B) = cntG (skF K (i : Int) T B) := by unfold cntV; rw [valGB_t (skF_val K (i : Int) T B)]; rfl
  have eS : cntV (skS K (i : Int) T B) = cntG (skS K (i : Int) T B) := by unfold cntV; rw [valGB_t (skS_val K (i : Int) T B)]; rfl
  have p1 := cntG_pos (skF_val K (i : Int) T B)
  have p2 := cntG_pos (skS_val K (i : Int) T B)
  have ew : IntKind.wrap .i64 (cntV (skF K (i : Int) T B) + cntV (skS K (i : Int) T B)) = ((celG (layG K (i : Int))).length : Int) := by
    rw [eF, eS, wid (by omega) (by omega)]; omega
  have sS : szG (skS K (i : Int) T B) = true := val_sz (skS_val K (i : Int) T B)
  have sF : szG (skF K (i : Int) T B) = true := val_sz (skF_val K (i : Int) T B)
  simp only [d0, d1, zL, nn_t, lt_t hi, el_LK, hz, dn9, eu, eb, eC, v1, v2, ew, sS, sF, beq_self_eq_true, Nat.beq, Bool.not_true, Bool.and_self, cond_true, cond_false]
  exact ⟨fun _ => ⟨_, rfl⟩, fun h => by cases h⟩
set_option maxHeartbeats 4000000 in
theorem law_SkinCovers (v0 : Value) (x0 : ((.prod (.list (.list (.prod (.int .i64) (.list (.prod (.int .i64) (.int .i64)))))) (.prod (.int .i64) (.prod (.int .i64) (.int .i64)))) : Ty).den) (r0 : Ty.InR (.prod (.list (.list (.prod (.int .i64) (.list (.prod (.int .i64) (.int .i64)))))) (.prod (.int .i64) (.prod (.int .i64) (.int .i64)))) x0) (z_w : World) (i0 : (AV.ag (Ty.cells false (.prod (.list (.list (.prod (.int .i64) (.list (.prod (.int .i64) (.int .i64)))))) (.prod (.int .i64) (.prod (.int .i64) (.int .i64)))) x0)).is [] (fun _ => none) (fun b => b < z_w.heap.size) z_w v0) : Calls Try.prog 9 #[v0] z_w fun e w' => e = .returned (.bool true) ∧ Ext z_w w' := by
  obtain ⟨L, ⟨I, ⟨T, B⟩⟩⟩ := x0
  refine law_of_tree (by kernel_rfl) (rgE_S58_ok) (skC_L52_ok) (law_SkinCovers_tree L I T B) (law_SkinCovers_all L I T B r0 ) rfl z_w _ _ (fun _ h => h) ⟨_, _, rfl, i0, rfl⟩
end Go.Proofs.Ytacgchandefjgaa
