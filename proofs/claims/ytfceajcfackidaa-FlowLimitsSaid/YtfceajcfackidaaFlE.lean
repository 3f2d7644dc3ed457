/-
  Layer 35: FlowLimits.
-/
import Derived.Test.YtfceajcfackidaaProg
import Derived.Test.YtfceajcfackidaaFvX
import Derived.Test.YtfceajcfackidaaFvZ
import Derived.Test.YtfceajcfackidaaAut
import Derived.Test.YtfceajcfackidaaRd
import Derived.Test.YtfceajcfackidaaPl
import Derived.Test.YtfceajcfackidaaScn
import Derived.Test.YtfceajcfackidaaFlA
import Derived.Test.YtfceajcfackidaaFlB
import Derived.Test.YtfceajcfackidaaFlC
import Derived.Test.YtfceajcfackidaaFlN
import Derived.Test.YtfceajcfackidaaFlD
namespace Go.Proofs.Ytfceajcfackidaa
open Go
abbrev lil_U : Type := Int × Int × Bool × (Ty.list (.prod (.int .i64) (.int .i64))).den × Int × Int × Int × Int × Int × Int × Int × Bool × Int × Int × Int × Int × Int × Int × Int × Int × Int × Int × Int × Int
abbrev lil_V : Type := Int × (Ty.list (.prod (.int .i64) (.prod (.int .i64) (.prod (.int .i64) (.prod (.int .i64) (.prod (.int .i64) (.list (.prod (.int .i64) (.int .i64))))))))).den
noncomputable def lil_St (u : lil_U) (v : lil_V) : Stt := ⟨[.one .junk, .one (.v false (.int .i64 u.1)), .one (.v false (.int .i64 u.2.1)), .one (.p 0 0), .one .junk, .one .junk, .one (.v false (.bool u.2.2.1)), .one (.s false 22 0 (none)), .one (.s false 980 0 (none)), .one (.v false (.int .i64 v.1)), .one .junk, .one .junk, .one .junk, .one .junk, .one .junk, .one .junk, .one .junk, .one .junk, .one .junk, .one .junk, .one .junk, .one .junk, .one .junk, .one .junk, .one .junk, .one .junk, .one .junk, .one .junk, .one .junk, .one .junk, .one .junk, .one .junk, .one .junk, .one .junk, .one .junk, .one .junk, .one .junk, .one .junk, .one .junk, .one .junk, .one .junk, .one .junk, .one .junk, .one .junk, .one .junk, .one .junk, .one .junk, .one .junk, .one .junk, .one .junk, .one .junk, .one .junk, .one .junk, .one .junk, .one .junk, .one .junk, .one .junk, .one .junk, .one .junk, .one .junk, .one .junk, .one .junk, .one .junk, .one .junk, .one .junk, .one .junk, .one .junk, .one .junk, .one .junk, .one .junk, .one .junk, .one .junk, .one .junk, .one .junk, .one .junk, .one .junk, .one .junk, .one .junk, .one .junk, .one .junk, .one .junk, .one .junk, .one .junk, .one .junk, .one .junk, .one .junk, .one .junk, .one .junk, .one .junk, .one .junk, .one .junk, .one .junk, .one .junk, .one .junk, .one .junk, .one .junk, .one .junk, .one .junk, .one .junk, .one .junk, .one .junk, .one .junk], [(33, .dead), (32, .dead), (22, .row false false false 41 (.prod (.int .i64) (.int .i64)) u.2.2.2.1), (0, .cells [.v false (.int .i64 u.2.2.2.2.1), .v false (.int .i64 u.2.2.2.2.2.1), .v false (.int .i64 u.2.2.2.2.2.2.1), .v false (.int .i64 u.2.2.2.2.2.2.2.1), .v false (.int .i64 u.2.2.2.2.2.2.2.2.1), .v false (.int .i64 u.2.2.2.2.2.2.2.2.2.1), .v false (.int .i64 u.2.2.2.2.2.2.2.2.2.2.1), .v false (.bool u.2.2.2.2.2.2.2.2.2.2.2.1), .v false (.int .i64 u.2.2.2.2.2.2.2.2.2.2.2.2.1), .v false (.int .i64 u.2.2.2.2.2.2.2.2.2.2.2.2.2.1), .v false (.int .i64 u.2.2.2.2.2.2.2.2.2.2.2.2.2.2.1), .v false (.int .i64 u.2.2.2.2.2.2.2.2.2.2.2.2.2.2.2.1), .v false (.int .i64 u.2.2.2.2.2.2.2.2.2.2.2.2.2.2.2.2.1), .v false (.int .i64 u.2.2.2.2.2.2.2.2.2.2.2.2.2.2.2.2.2.1), .v false (.int .i64 u.2.2.2.2.2.2.2.2.2.2.2.2.2.2.2.2.2.2.1), .v false (.int .i64 u.2.2.2.2.2.2.2.2.2.2.2.2.2.2.2.2.2.2.2.1), .v false (.int .i64 u.2.2.2.2.2.2.2.2.2.2.2.2.2.2.2.2.2.2.2.2.1), .v false (.int .i64 u.2.2.2.2.2.2.2.2.2.2.2.2.2.2.2.2.2.2.2.2.2.1), .v false (.int .i64 u.2.2.2.2.2.2.2.2.2.2.2.2.2.2.2.2.2.2.2.2.2.2.1), .v false (.int .i64 u.2.2.2.2.2.2.2.2.2.2.2.2.2.2.2.2.2.2.2.2.2.2.2)]), (980, .row true false false 29 (.prod (.int .i64) (.prod (.int .i64) (.prod (.int .i64) (.prod (.int .i64) (.prod (.int .i64) (.list (.prod (.int .i64) (.int .i64)))))))) v.2)], 1038⟩
noncomputable def lil_step (u : lil_U) (v : lil_V) : Tr (lil_V ⊕ (Nat × lil_V)) :=
  match u, v with
  | (q0, _, _, q4, _, _, _, _, _, _, _, _, _, _, _, _, _, _, _, _, _, _, _, _), (q3, q25) => .br (decide (q3 < q0)) (.br (decide ((List.length q25 + (1 : Nat)) * (64 : Nat) ≤ maxNew) && decide (List.length q25 + (1 : Nat) ≤ maxLen)) (.ret (.inl (IntKind.wrap IntKind.i64 (q3 + (1 : Int)), q25 ++ [((3 : Int), (0 : Int), (0 : Int), (0 : Int), (0 : Int), q4)]))) (.bad 71)) (.ret (.inr (0, (q3, q25))))
set_option maxRecDepth 100000 in
set_option maxHeartbeats 4000000 in
theorem lil_step_eq : ∀ (u : lil_U) (v : lil_V), (evalC Try.prog (evalB Try.prog flD_S63 (opens []) flC_L63 7).1 (evalB Try.prog flD_S63 (opens []) flC_L63 7).2 (opens []) (flC_L63 3) 100000 (0 :: [0, 1, 0, 1, 1, 1, 1]) (loopOf (bodyOf Try.prog 3) [1, 1, 1, 1, 0, 1, 0]) (lil_St u v) []).bind (finF [0, 4, 5, 10, 11, 12, 13, 14, 15, 16, 17, 18, 19, 20, 21, 22, 23, 24, 25, 26, 27, 28, 29, 30, 31, 32, 33, 34, 35, 36, 37, 38, 39, 40, 41, 42, 43, 44, 45, 46, 47, 48, 49, 50, 51, 52, 53, 54, 55, 56, 57, 58, 59, 60, 61, 62, 63, 64, 65, 66, 67, 68, 69, 70, 71, 72, 73, 74, 75, 76, 77, 78, 79, 80, 81, 82, 83, 84, 85, 86, 87, 88, 89, 90, 91, 92, 93, 94, 95, 96, 97, 98, 99, 100, 101] [⟨980, some 8, 0, 0, 29, (.prod (.int .i64) (.prod (.int .i64) (.prod (.int .i64) (.prod (.int .i64) (.prod (.int .i64) (.list (.prod (.int .i64) (.int .i64))))))))⟩] [33, 32, 22, 0, 980] [33, 32, 1045] 1038) = (lil_step u v).bind (outA (lil_St u) [.exit 0]) := by
  rintro ⟨q0, q1, q2, q4, q5, q6, q7, q8, q9, q10, q11, q12, q13, q14, q15, q16, q17, q18, q19, q20, q21, q22, q23, q24⟩ ⟨q3, q25⟩
  kernel_rfl
noncomputable def lil_rd (b : Bool) (o1 : Option AV) (o2 : Option AV) (o3 : Option AV) (o6 : Option AV) (o7 : Option AV) (o8 : Option AV) (o9 : Option AV) (own : Own) : Option (lil_U × lil_V) := zrT b <| zrO o1 fun za1 => zrA1 za1 fun zc2 => zrI .i64 zc2 fun q0 => zrO o2 fun za3 => zrA1 za3 fun zc4 => zrI .i64 zc4 fun q1 => zrO o3 fun za5 => zrA1 za5 fun zc6 => zrP 0 0 zc6 <| zrO o6 fun za7 => zrA1 za7 fun zc8 => zrB zc8 fun q2 => zrO o7 fun za9 => zrA1 za9 fun zc10 => zrSl 22 0 (none) zc10 <| zrO o8 fun za11 => zrA1 za11 fun zc12 => zrSl 980 0 (none) zc12 <| zrO o9 fun za13 => zrA1 za13 fun zc14 => zrI .i64 zc14 fun q3 => zrL own fun zq15 zw16 => zrKey 33 zq15 fun zk17 => zrX zk17 <| zrL zw16 fun zq18 zw19 => zrKey 32 zq18 fun zk20 => zrX zk20 <| zrL zw19 fun zq21 zw22 => zrKey 22 zq21 fun zk23 => zrR false 41 (.prod (.int .i64) (.int .i64)) zk23 fun q4 => zrL zw22 fun zq24 zw25 => zrKey 0 zq24 fun zk26 => zrC zk26 fun zl27 => zrL zl27 fun zc28 zr29 => zrI .i64 zc28 fun q5 => zrL zr29 fun zc30 zr31 => zrI .i64 zc30 fun q6 => zrL zr31 fun zc32 zr33 => zrI .i64 zc32 fun q7 => zrL zr33 fun zc34 zr35 => zrI .i64 zc34 fun q8 => zrL zr35 fun zc36 zr37 => zrI .i64 zc36 fun q9 => zrL zr37 fun zc38 zr39 => zrI .i64 zc38 fun q10 => zrL zr39 fun zc40 zr41 => zrI .i64 zc40 fun q11 => zrL zr41 fun zc42 zr43 => zrB zc42 fun q12 => zrL zr43 fun zc44 zr45 => zrI .i64 zc44 fun q13 => zrL zr45 fun zc46 zr47 => zrI .i64 zc46 fun q14 => zrL zr47 fun zc48 zr49 => zrI .i64 zc48 fun q15 => zrL zr49 fun zc50 zr51 => zrI .i64 zc50 fun q16 => zrL zr51 fun zc52 zr53 => zrI .i64 zc52 fun q17 => zrL zr53 fun zc54 zr55 => zrI .i64 zc54 fun q18 => zrL zr55 fun zc56 zr57 => zrI .i64 zc56 fun q19 => zrL zr57 fun zc58 zr59 => zrI .i64 zc58 fun q20 => zrL zr59 fun zc60 zr61 => zrI .i64 zc60 fun q21 => zrL zr61 fun zc62 zr63 => zrI .i64 zc62 fun q22 => zrL zr63 fun zc64 zr65 => zrI .i64 zc64 fun q23 => zrL zr65 fun zc66 zr67 => zrI .i64 zc66 fun q24 => zrN zr67 <| zrL zw25 fun zq68 zw69 => zrKey 980 zq68 fun zk70 => zrR true 29 (.prod (.int .i64) (.prod (.int .i64) (.prod (.int .i64) (.prod (.int .i64) (.prod (.int .i64) (.list (.prod (.int .i64) (.int .i64)))))))) zk70 fun q25 => zrN zw69 <| some ((q0, q1, q2, q4, q5, q6, q7, q8, q9, q10, q11, q12, q13, q14, q15, q16, q17, q18, q19, q20, q21, q22, q23, q24), (q3, q25))
noncomputable def lil_can (st : Stt) : Stt := canA [0, 4, 5, 10, 11, 12, 13, 14, 15, 16, 17, 18, 19, 20, 21, 22, 23, 24, 25, 26, 27, 28, 29, 30, 31, 32, 33, 34, 35, 36, 37, 38, 39, 40, 41, 42, 43, 44, 45, 46, 47, 48, 49, 50, 51, 52, 53, 54, 55, 56, 57, 58, 59, 60, 61, 62, 63, 64, 65, 66, 67, 68, 69, 70, 71, 72, 73, 74, 75, 76, 77, 78, 79, 80, 81, 82, 83, 84, 85, 86, 87, 88, 89, 90, 91, 92, 93, 94, 95, 96, 97, 98, 99, 100, 101] [⟨980, some 8, 0, 0, 29, (.prod (.int .i64) (.prod (.int .i64) (.prod (.int .i64) (.prod (.int .i64) (.prod (.int .i64) (.list (.prod (.int .i64) (.int .i64))))))))⟩] [33, 32, 22, 0, 980] [33, 32, 1045] 1038 st
noncomputable def lil_cok (st : Stt) : Bool := canAok [0, 4, 5, 10, 11, 12, 13, 14, 15, 16, 17, 18, 19, 20, 21, 22, 23, 24, 25, 26, 27, 28, 29, 30, 31, 32, 33, 34, 35, 36, 37, 38, 39, 40, 41, 42, 43, 44, 45, 46, 47, 48, 49, 50, 51, 52, 53, 54, 55, 56, 57, 58, 59, 60, 61, 62, 63, 64, 65, 66, 67, 68, 69, 70, 71, 72, 73, 74, 75, 76, 77, 78, 79, 80, 81, 82, 83, 84, 85, 86, 87, 88, 89, 90, 91, 92, 93, 94, 95, 96, 97, 98, 99, 100, 101] [⟨980, some 8, 0, 0, 29, (.prod (.int .i64) (.prod (.int .i64) (.prod (.int .i64) (.prod (.int .i64) (.prod (.int .i64) (.list (.prod (.int .i64) (.int .i64))))))))⟩] [33, 32, 22, 0, 980] [33, 32, 1045] 1038 st
noncomputable def lil_read (st : Stt) : Option (lil_U × lil_V) := lil_rd (lil_cok st && (staysA [⟨980, some 8, 0, 0, 29, (.prod (.int .i64) (.prod (.int .i64) (.prod (.int .i64) (.prod (.int .i64) (.prod (.int .i64) (.list (.prod (.int .i64) (.int .i64))))))))⟩] [33, 32, 22, 0, 980] st.own && juAll [0, 4, 5, 10, 11, 12, 13, 14, 15, 16, 17, 18, 19, 20, 21, 22, 23, 24, 25, 26, 27, 28, 29, 30, 31, 32, 33, 34, 35, 36, 37, 38, 39, 40, 41, 42, 43, 44, 45, 46, 47, 48, 49, 50, 51, 52, 53, 54, 55, 56, 57, 58, 59, 60, 61, 62, 63, 64, 65, 66, 67, 68, 69, 70, 71, 72, 73, 74, 75, 76, 77, 78, 79, 80, 81, 82, 83, 84, 85, 86, 87, 88, 89, 90, 91, 92, 93, 94, 95, 96, 97, 98, 99, 100, 101] (lil_can st).tm 102)) (lil_can st).tm[1]? (lil_can st).tm[2]? (lil_can st).tm[3]? (lil_can st).tm[6]? (lil_can st).tm[7]? (lil_can st).tm[8]? (lil_can st).tm[9]? (lil_can st).own
set_option maxRecDepth 100000 in
set_option maxHeartbeats 4000000 in
theorem lil_rd_ok {b : Bool} {tm : List AV} {own : Own} {u : lil_U} {v : lil_V} (hj : b = true → juAll [0, 4, 5, 10, 11, 12, 13, 14, 15, 16, 17, 18, 19, 20, 21, 22, 23, 24, 25, 26, 27, 28, 29, 30, 31, 32, 33, 34, 35, 36, 37, 38, 39, 40, 41, 42, 43, 44, 45, 46, 47, 48, 49, 50, 51, 52, 53, 54, 55, 56, 57, 58, 59, 60, 61, 62, 63, 64, 65, 66, 67, 68, 69, 70, 71, 72, 73, 74, 75, 76, 77, 78, 79, 80, 81, 82, 83, 84, 85, 86, 87, 88, 89, 90, 91, 92, 93, 94, 95, 96, 97, 98, 99, 100, 101] tm 102 = true) (h : lil_rd b tm[1]? tm[2]? tm[3]? tm[6]? tm[7]? tm[8]? tm[9]? own = some (u, v)) : b = true ∧ tm = (lil_St u v).tm ∧ own = (lil_St u v).own := by
  unfold lil_rd at h
  obtain ⟨rfl, h0⟩ := zrT_some h
  obtain ⟨za1, e1, h1⟩ := zrO_some h0
  obtain ⟨zc2, rfl, h2⟩ := zrA1_some h1
  obtain ⟨q0, rfl, h3⟩ := zrI_some h2
  obtain ⟨za3, e2, h4⟩ := zrO_some h3
  obtain ⟨zc4, rfl, h5⟩ := zrA1_some h4
  obtain ⟨q1, rfl, h6⟩ := zrI_some h5
  obtain ⟨za5, e3, h7⟩ := zrO_some h6
  obtain ⟨zc6, rfl, h8⟩ := zrA1_some h7
  obtain ⟨rfl, h9⟩ := zrP_some h8
  obtain ⟨za7, e6, h10⟩ := zrO_some h9
  obtain ⟨zc8, rfl, h11⟩ := zrA1_some h10
  obtain ⟨q2, rfl, h12⟩ := zrB_some h11
  obtain ⟨za9, e7, h13⟩ := zrO_some h12
  obtain ⟨zc10, rfl, h14⟩ := zrA1_some h13
  obtain ⟨rfl, h15⟩ := zrSl_some h14
  obtain ⟨za11, e8, h16⟩ := zrO_some h15
  obtain ⟨zc12, rfl, h17⟩ := zrA1_some h16
  obtain ⟨rfl, h18⟩ := zrSl_some h17
  obtain ⟨za13, e9, h19⟩ := zrO_some h18
  obtain ⟨zc14, rfl, h20⟩ := zrA1_some h19
  obtain ⟨q3, rfl, h21⟩ := zrI_some h20
  obtain ⟨zq15, zw16, rfl, h22⟩ := zrL_some h21
  obtain ⟨zk17, rfl, h23⟩ := zrKey_some h22
  obtain ⟨rfl, h24⟩ := zrX_some h23
  obtain ⟨zq18, zw19, rfl, h25⟩ := zrL_some h24
  obtain ⟨zk20, rfl, h26⟩ := zrKey_some h25
  obtain ⟨rfl, h27⟩ := zrX_some h26
  obtain ⟨zq21, zw22, rfl, h28⟩ := zrL_some h27
  obtain ⟨zk23, rfl, h29⟩ := zrKey_some h28
  obtain ⟨q4, rfl, h30⟩ := zrR_some h29
  obtain ⟨zq24, zw25, rfl, h31⟩ := zrL_some h30
  obtain ⟨zk26, rfl, h32⟩ := zrKey_some h31
  obtain ⟨zl27, rfl, h33⟩ := zrC_some h32
  obtain ⟨zc28, zr29, rfl, h34⟩ := zrL_some h33
  obtain ⟨q5, rfl, h35⟩ := zrI_some h34
  obtain ⟨zc30, zr31, rfl, h36⟩ := zrL_some h35
  obtain ⟨q6, rfl, h37⟩ := zrI_some h36
  obtain ⟨zc32, zr33, rfl, h38⟩ := zrL_some h37
  obtain ⟨q7, rfl, h39⟩ := zrI_some h38
  obtain ⟨zc34, zr35, rfl, h40⟩ := zrL_some h39
  obtain ⟨q8, rfl, h41⟩ := zrI_some h40
  obtain ⟨zc36, zr37, rfl, h42⟩ := zrL_some h41
  obtain ⟨q9, rfl, h43⟩ := zrI_some h42
  obtain ⟨zc38, zr39, rfl, h44⟩ := zrL_some h43
  obtain ⟨q10, rfl, h45⟩ := zrI_some h44
  obtain ⟨zc40, zr41, rfl, h46⟩ := zrL_some h45
  obtain ⟨q11, rfl, h47⟩ := zrI_some h46
  obtain ⟨zc42, zr43, rfl, h48⟩ := zrL_some h47
  obtain ⟨q12, rfl, h49⟩ := zrB_some h48
  obtain ⟨zc44, zr45, rfl, h50⟩ := zrL_some h49
  obtain ⟨q13, rfl, h51⟩ := zrI_some h50
  obtain ⟨zc46, zr47, rfl, h52⟩ := zrL_some h51
  obtain ⟨q14, rfl, h53⟩ := zrI_some h52
  obtain ⟨zc48, zr49, rfl, h54⟩ := zrL_some h53
  obtain ⟨q15, rfl, h55⟩ := zrI_some h54
  obtain ⟨zc50, zr51, rfl, h56⟩ := zrL_some h55
  obtain ⟨q16, rfl, h57⟩ := zrI_some h56
  obtain ⟨zc52, zr53, rfl, h58⟩ := zrL_some h57
  obtain ⟨q17, rfl, h59⟩ := zrI_some h58
  obtain ⟨zc54, zr55, rfl, h60⟩ := zrL_some h59
  obtain ⟨q18, rfl, h61⟩ := zrI_some h60
  obtain ⟨zc56, zr57, rfl, h62⟩ := zrL_some h61
  obtain ⟨q19, rfl, h63⟩ := zrI_some h62
  obtain ⟨zc58, zr59, rfl, h64⟩ := zrL_some h63
  obtain ⟨q20, rfl, h65⟩ := zrI_some h64
  obtain ⟨zc60, zr61, rfl, h66⟩ := zrL_some h65
  obtain ⟨q21, rfl, h67⟩ := zrI_some h66
  obtain ⟨zc62, zr63, rfl, h68⟩ := zrL_some h67
  obtain ⟨q22, rfl, h69⟩ := zrI_some h68
  obtain ⟨zc64, zr65, rfl, h70⟩ := zrL_some h69
  obtain ⟨q23, rfl, h71⟩ := zrI_some h70
  obtain ⟨zc66, zr67, rfl, h72⟩ := zrL_some h71
  obtain ⟨q24, rfl, h73⟩ := zrI_some h72
  obtain ⟨rfl, h74⟩ := zrN_some h73
  obtain ⟨zq68, zw69, rfl, h75⟩ := zrL_some h74
  obtain ⟨zk70, rfl, h76⟩ := zrKey_some h75
  obtain ⟨q25, rfl, h77⟩ := zrR_some h76
  obtain ⟨rfl, h78⟩ := zrN_some h77
  have h := Option.some.inj h78
  have hu := congrArg Prod.fst h
  have hv := congrArg Prod.snd h
  dsimp only at hu hv
  subst hu
  subst hv
  exact ⟨rfl, (tm_fill (hj rfl) (Lv := [(1, .one (.v false (.int .i64 q0))), (2, .one (.v false (.int .i64 q1))), (3, .one (.p 0 0)), (6, .one (.v false (.bool q2))), (7, .one (.s false 22 0 (none))), (8, .one (.s false 980 0 (none))), (9, .one (.v false (.int .i64 q3)))]) (by kernel_rfl) ⟨e1, e2, e3, e6, e7, e8, e9, trivial⟩).trans (by kernel_rfl), rfl⟩
theorem lil_read_ok (st : Stt) (u : lil_U) (v : lil_V) (h : lil_read st = some (u, v)) : lil_cok st = true ∧ staysA [⟨980, some 8, 0, 0, 29, (.prod (.int .i64) (.prod (.int .i64) (.prod (.int .i64) (.prod (.int .i64) (.prod (.int .i64) (.list (.prod (.int .i64) (.int .i64))))))))⟩] [33, 32, 22, 0, 980] st.own = true ∧ lil_can st = lil_St u v := by
  obtain ⟨h1, h2, h3⟩ := lil_rd_ok (fun hb => by rw [Bool.and_eq_true, Bool.and_eq_true] at hb; exact hb.2.2) h
  rw [Bool.and_eq_true, Bool.and_eq_true] at h1
  refine ⟨h1.1, h1.2.1, ?_⟩
  have e : lil_can st = ⟨(lil_can st).tm, (lil_can st).own, 1038⟩ := by kernel_rfl
  rw [e, h2, h3]
  rfl
noncomputable def lil_cond (u : lil_U) (v : lil_V) : Bool := runC (lil_step u) v
noncomputable def lil_g (u : lil_U) (v : lil_V) : Nat × lil_V := runG (lil_step u) v
theorem lil_hg : ∀ (u : lil_U) (v : lil_V), lil_cond u v = true → loopN (lil_step u) ((fun u v => runF (lil_step u) v) u v) v = some (lil_g u v) := by
  exact fun u v h => run_hg h
noncomputable def lil_m (st : Stt) : Option (Tr (Ex × Stt)) := sumM lil_read lil_cond lil_St lil_g [(0, .exit 0)] st
noncomputable def flE_L61 : FuncId → Loops := addL 3 [0, 1, 0, 1, 1, 1, 1] lil_m flC_L63
set_option maxRecDepth 100000 in
set_option maxHeartbeats 4000000 in
theorem flE_L61_ok : LoopsOK Try.prog flE_L61 :=
  loop_sumF (body := (bodyOf Try.prog 3)) (c := (loopOf (bodyOf Try.prog 3) [1, 1, 1, 1, 0, 1, 0])) (kinds := [.exit 0]) (allow := [(0, .exit 0)]) (St := lil_St) (step := lil_step) (W := [0, 4, 5, 10, 11, 12, 13, 14, 15, 16, 17, 18, 19, 20, 21, 22, 23, 24, 25, 26, 27, 28, 29, 30, 31, 32, 33, 34, 35, 36, 37, 38, 39, 40, 41, 42, 43, 44, 45, 46, 47, 48, 49, 50, 51, 52, 53, 54, 55, 56, 57, 58, 59, 60, 61, 62, 63, 64, 65, 66, 67, 68, 69, 70, 71, 72, 73, 74, 75, 76, 77, 78, 79, 80, 81, 82, 83, 84, 85, 86, 87, 88, 89, 90, 91, 92, 93, 94, 95, 96, 97, 98, 99, 100, 101]) (As := [⟨980, some 8, 0, 0, 29, (.prod (.int .i64) (.prod (.int .i64) (.prod (.int .i64) (.prod (.int .i64) (.prod (.int .i64) (.list (.prod (.int .i64) (.int .i64))))))))⟩]) (ks := [33, 32, 22, 0, 980]) (dd := [33, 32, 1045]) (nx := 1038) (n := 100000) (g := lil_g) (cond := lil_cond) (fuel := (fun u v => runF (lil_step u) v)) (read := lil_read) (by kernel_rfl) (flD_S63_ok) (flC_L63_ok) 7 ⟨Try.f3, by kernel_rfl, by kernel_rfl⟩ (by kernel_rfl) (by kernel_rfl) (by kernel_rfl) lil_step_eq lil_hg lil_read_ok
abbrev CL : Type := List (Int × Int)
def lRow (c : Int) : CL := List.replicate (Int.toNat c) ((0 : Int), (0 : Int))
def opC (c : Int) : Op1 := ((3 : Int), (0 : Int), (0 : Int), (0 : Int), (0 : Int), lRow c)
section
variable {pi he wa tp bo pa sp : Int} {su : Bool} {re ga br sk dr fe tr rt mt mf nz bd : Int}
theorem lil_run {m : Nat} {c : Int} (h : m + 1 ≤ 300) : lil_cond (((m + 1 : Nat) : Int), c, false, lRow c, pi, he, wa, tp, bo, pa, sp, su, re, ga, br, sk, dr, fe, tr, rt, mt, mf, nz, bd) ((1 : Int), [opC c]) = true ∧ lil_g (((m + 1 : Nat) : Int), c, false, lRow c, pi, he, wa, tp, bo, pa, sp, su, re, ga, br, sk, dr, fe, tr, rt, mt, mf, nz, bd) ((1 : Int), [opC c]) = (0, (((m + 1 : Nat) : Int), List.replicate (m + 1) (opC c))) := by
  refine run_steps (step := lil_step (((m + 1 : Nat) : Int), c, false, lRow c, pi, he, wa, tp, bo, pa, sp, su, re, ga, br, sk, dr, fe, tr, rt, mt, mf, nz, bd)) (St := fun j => (((j + 1 : Nat) : Int), List.replicate (j + 1) (opC c))) (n := m) (t := (0, (((m + 1 : Nat) : Int), List.replicate (m + 1) (opC c)))) ?_ m 0 (Nat.zero_add _) (fun j _ hj => ?_)
  · simp only [lil_step, Tr.val, Int.lt_irrefl, decide_false, cond_false]
  · have c1 : decide ((((j + 1 : Nat) : Int)) < ((m + 1 : Nat) : Int)) = true := decide_eq_true (by omega)
    have w1 : IntKind.wrap IntKind.i64 (((j + 1 : Nat) : Int) + 1) = ((j + 1 + 1 : Nat) : Int) := by rw [wid (by omega) (by omega)]; omega
    obtain ⟨r1, r2⟩ := room64 (n := j + 1 + 1) (by omega)
    have e : List.replicate (j + 1 + 1) (opC c) = List.replicate (j + 1) (opC c) ++ [opC c] := List.replicate_succ'
    simp only [lil_step, Tr.val, c1, w1, List.length_replicate, r1, r2, Bool.and_self, cond_true, e]
    rfl
section
variable {n : Nat} {c : Nat}
theorem rp_oL {i : Nat} (h : i < n) : oL (List.replicate n (opC (c : Int))) i = opC (c : Int) := by
  show (List.replicate n (opC (c : Int))).getD i ((0, 0, 0, 0, 0, []) : Op1) = _
  rw [List.getD, List.getElem?_replicate, if_pos h]; rfl
theorem rp_kd {i : Nat} (h : i < n) : kd (List.replicate n (opC (c : Int))) i = 3 := by unfold kd; rw [rp_oL h]; rfl
theorem rp_cn {i : Nat} (h : i < n) : cn (List.replicate n (opC (c : Int))) i = c := by
  unfold cn; rw [rp_oL h]
  show ((List.replicate (Int.toNat (c : Int)) ((0 : Int), (0 : Int))).length : Int) = c
  rw [List.length_replicate, Int.toNat_natCast]
theorem rp_nb : ∀ i, i ≤ n → nb35 (List.replicate n (opC (c : Int))) i = ((i : Int) * c, false)
  | 0, _ => by simp [nb35]
  | i + 1, h => by
    have ih := rp_nb i (by omega)
    unfold nb35
    rw [ih, rp_kd (by omega), rp_cn (by omega)]
    show ((i : Int) * c + c, false) = _
    have : ((i + 1 : Nat) : Int) * c = (i : Int) * c + c := by push_cast; rw [Int.add_mul, Int.one_mul]
    rw [this]
theorem rp_bad {i : Nat} (h : i < n) : bad35 (List.replicate n (opC (c : Int))) i = decide (((i + 1 : Nat) : Int) * c > 1048576) := by
  unfold bad35
  rw [rp_nb i (by omega), rp_nb (i + 1) (by omega), rp_kd h]; rfl
theorem rp_ok (hn : n ≤ 1000) (hc : c ≤ 100000) : opsOk (List.replicate n (opC (c : Int))) = true := by
  unfold opsOk
  rw [Bool.and_eq_true, List.all_eq_true]
  refine ⟨decide_eq_true (by rw [List.length_replicate]; exact hn), fun o ho => ?_⟩
  obtain ⟨_, rfl⟩ := List.mem_replicate.1 ho
  refine decide_eq_true ?_
  show (List.replicate (Int.toNat (c : Int)) ((0 : Int), (0 : Int))).length ≤ _
  rw [List.length_replicate, Int.toNat_natCast]; exact hc
theorem rp_amF (h0 : 0 < n) : (amF (List.replicate n (opC (c : Int))) < n ↔ (n : Int) * c > 1048576) := by
  obtain ⟨_, g2, g3, g4⟩ := firstB_spec (bad35 (List.replicate n (opC (c : Int)))) n 0
  unfold amF
  rw [List.length_replicate]
  constructor
  · intro h
    have hb := g4 (by omega)
    rw [rp_bad h] at hb
    have hb := of_decide_eq_true hb
    generalize firstB (bad35 (List.replicate n (opC (c : Int)))) n 0 = i at h hb
    have : ((i + 1 : Nat) : Int) * c ≤ (n : Int) * c := Int.mul_le_mul_of_nonneg_right (by omega) (by omega)
    omega
  · intro h
    rcases Nat.lt_or_ge (firstB (bad35 (List.replicate n (opC (c : Int)))) n 0) n with g | g
    · exact g
    · have hb := g3 (n - 1) (by omega) (by omega)
      rw [rp_bad (by omega)] at hb
      have hb := of_decide_eq_false hb
      have e : n - 1 + 1 = n := by omega
      rw [e] at hb
      exact absurd h hb
theorem rp_yes (h0 : 0 < n) (h : ¬ (n : Int) * c > 1048576) : amC (List.replicate n (opC (c : Int))) = 0 ∧ amL pi he dr rt (List.replicate n (opC (c : Int))) = tab n (pz pi he dr rt (List.replicate n (opC (c : Int)))) := by
  have e : amOk (List.replicate n (opC (c : Int))) = true := by
    unfold amOk
    rw [List.length_replicate, decide_eq_false (fun g => h ((rp_amF h0).1 g))]; rfl
  unfold amC amL
  rw [e, List.length_replicate]; exact ⟨rfl, rfl⟩
theorem rp_no (h0 : 0 < n) (h : (n : Int) * c > 1048576) : amC (List.replicate n (opC (c : Int))) = 2 ∧ amL pi he dr rt (List.replicate n (opC (c : Int))) = [] := by
  have g := (rp_amF h0).2 h
  have e : amOk (List.replicate n (opC (c : Int))) = false := by
    unfold amOk
    rw [List.length_replicate, decide_eq_true g]; rfl
  unfold amC amL
  rw [e, rp_kd g, rp_nb _ (by omega)]; exact ⟨rfl, rfl⟩
end
theorem nil_am : amC [] = 0 ∧ amL pi he dr rt [] = [] := ⟨rfl, rfl⟩
end
set_option maxRecDepth 100000 in
theorem law_FlowLimits_tree (pi : Int) (he : Int) (wa : Int) (tp : Int) (bo : Int) (pa : Int) (sp : Int) (su : Bool) (re : Int) (ga : Int) (br : Int) (sk : Int) (dr : Int) (fe : Int) (tr : Int) (rt : Int) (mt : Int) (mf : Int) (nz : Int) (bd : Int) (ops : Int) (cells : Int) : evalF Try.prog flD_S63 (opens []) flE_L61 9 3 [.ag [.v false (.int .i64 pi), .v false (.int .i64 he), .v false (.int .i64 wa), .v false (.int .i64 tp), .v false (.int .i64 bo), .v false (.int .i64 pa), .v false (.int .i64 sp), .v false (.bool su), .v false (.int .i64 re), .v false (.int .i64 ga), .v false (.int .i64 br), .v false (.int .i64 sk), .v false (.int .i64 dr), .v false (.int .i64 fe), .v false (.int .i64 tr), .v false (.int .i64 rt), .v false (.int .i64 mt), .v false (.int .i64 mf), .v false (.int .i64 nz), .v false (.int .i64 bd)], .one (.v false (.int .i64 ops)), .one (.v false (.int .i64 cells))] = .br ((bif bif bif bif bif decide (ops < (0 : Int)) then true else decide (ops > (300 : Int)) then true else decide (cells < (0 : Int)) then true else decide (cells > (8192 : Int)) then true else !sv pi he wa tp bo pa sp su re ga br sk dr fe tr rt mt mf nz bd then true else ((decide ((0 : Int) ≤ cells) && decide (cells ≤ cells) && decide ((↑(16 : Nat) : Int) * cells ≤ (281474976710656 : Int)) && decide (cells ≤ (9223372036854775807 : Int))) && (bif decide ((0 : Int) < ops) then ((lil_cond (ops, cells, false, List.replicate (Int.toNat cells) ((0 : Int), (0 : Int)), pi, he, wa, tp, bo, pa, sp, su, re, ga, br, sk, dr, fe, tr, rt, mt, mf, nz, bd) (IntKind.wrap IntKind.i64 ((0 : Int) + (1 : Int)), [((3 : Int), (0 : Int), (0 : Int), (0 : Int), (0 : Int), List.replicate (Int.toNat cells) ((0 : Int), (0 : Int)))])) && ((Nat.beq (Prod.fst (lil_g (ops, cells, false, List.replicate (Int.toNat cells) ((0 : Int), (0 : Int)), pi, he, wa, tp, bo, pa, sp, su, re, ga, br, sk, dr, fe, tr, rt, mt, mf, nz, bd) (IntKind.wrap IntKind.i64 ((0 : Int) + (1 : Int)), [((3 : Int), (0 : Int), (0 : Int), (0 : Int), (0 : Int), List.replicate (Int.toNat cells) ((0 : Int), (0 : Int)))]))) (0 : Nat)) && ((opsOk (Prod.snd (Prod.snd (lil_g (ops, cells, false, List.replicate (Int.toNat cells) ((0 : Int), (0 : Int)), pi, he, wa, tp, bo, pa, sp, su, re, ga, br, sk, dr, fe, tr, rt, mt, mf, nz, bd) (IntKind.wrap IntKind.i64 ((0 : Int) + (1 : Int)), [((3 : Int), (0 : Int), (0 : Int), (0 : Int), (0 : Int), List.replicate (Int.toNat cells) ((0 : Int), (0 : Int)))]))))) && (bif decide (IntKind.wrap IntKind.i64 (ops * cells) > (1048576 : Int)) then true else ((bif bif (bif sv pi he wa tp bo pa sp su re ga br sk dr fe tr rt mt mf nz bd then amC (Prod.snd (Prod.snd (lil_g (ops, cells, false, List.replicate (Int.toNat cells) ((0 : Int), (0 : Int)), pi, he, wa, tp, bo, pa, sp, su, re, ga, br, sk, dr, fe, tr, rt, mt, mf, nz, bd) (IntKind.wrap IntKind.i64 ((0 : Int) + (1 : Int)), [((3 : Int), (0 : Int), (0 : Int), (0 : Int), (0 : Int), List.replicate (Int.toNat cells) ((0 : Int), (0 : Int)))])))) else (1 : Int)) == (0 : Int) then (↑(List.length (bif sv pi he wa tp bo pa sp su re ga br sk dr fe tr rt mt mf nz bd then amL pi he dr rt (Prod.snd (Prod.snd (lil_g (ops, cells, false, List.replicate (Int.toNat cells) ((0 : Int), (0 : Int)), pi, he, wa, tp, bo, pa, sp, su, re, ga, br, sk, dr, fe, tr, rt, mt, mf, nz, bd) (IntKind.wrap IntKind.i64 ((0 : Int) + (1 : Int)), [((3 : Int), (0 : Int), (0 : Int), (0 : Int), (0 : Int), List.replicate (Int.toNat cells) ((0 : Int), (0 : Int)))])))) else [])) : Int) == ops else false then (bif ops == (0 : Int) then true else ((decide ((0 : Int) ≤ IntKind.wrap IntKind.i64 (ops - (1 : Int))) && decide (IntKind.wrap IntKind.i64 (ops - (1 : Int)) < (↑(List.length (bif sv pi he wa tp bo pa sp su re ga br sk dr fe tr rt mt mf nz bd then amL pi he dr rt (Prod.snd (Prod.snd (lil_g (ops, cells, false, List.replicate (Int.toNat cells) ((0 : Int), (0 : Int)), pi, he, wa, tp, bo, pa, sp, su, re, ga, br, sk, dr, fe, tr, rt, mt, mf, nz, bd) (IntKind.wrap IntKind.i64 ((0 : Int) + (1 : Int)), [((3 : Int), (0 : Int), (0 : Int), (0 : Int), (0 : Int), List.replicate (Int.toNat cells) ((0 : Int), (0 : Int)))])))) else [])) : Int))) && (dr != (0 : Int)))) else true)))))) else ((true) && (bif decide (IntKind.wrap IntKind.i64 (ops * cells) > (1048576 : Int)) then true else ((bif bif (bif sv pi he wa tp bo pa sp su re ga br sk dr fe tr rt mt mf nz bd then amC [] else (1 : Int)) == (0 : Int) then (↑(List.length (bif sv pi he wa tp bo pa sp su re ga br sk dr fe tr rt mt mf nz bd then amL pi he dr rt [] else [])) : Int) == ops else false then (bif ops == (0 : Int) then true else ((decide ((0 : Int) ≤ IntKind.wrap IntKind.i64 (ops - (1 : Int))) && decide (IntKind.wrap IntKind.i64 (ops - (1 : Int)) < (↑(List.length (bif sv pi he wa tp bo pa sp su re ga br sk dr fe tr rt mt mf nz bd then amL pi he dr rt [] else [])) : Int))) && (dr != (0 : Int)))) else true)))))))) (.ret (.one (.v false (.bool (bif bif bif bif bif decide (ops < (0 : Int)) then true else decide (ops > (300 : Int)) then true else decide (cells < (0 : Int)) then true else decide (cells > (8192 : Int)) then true else !sv pi he wa tp bo pa sp su re ga br sk dr fe tr rt mt mf nz bd then true else bif decide ((0 : Int) < ops) then bif decide (IntKind.wrap IntKind.i64 (ops * cells) > (1048576 : Int)) then bif bif (bif sv pi he wa tp bo pa sp su re ga br sk dr fe tr rt mt mf nz bd then amC (Prod.snd (Prod.snd (lil_g (ops, cells, false, List.replicate (Int.toNat cells) ((0 : Int), (0 : Int)), pi, he, wa, tp, bo, pa, sp, su, re, ga, br, sk, dr, fe, tr, rt, mt, mf, nz, bd) (IntKind.wrap IntKind.i64 ((0 : Int) + (1 : Int)), [((3 : Int), (0 : Int), (0 : Int), (0 : Int), (0 : Int), List.replicate (Int.toNat cells) ((0 : Int), (0 : Int)))])))) else (1 : Int)) == (2 : Int) then (↑(List.length (bif sv pi he wa tp bo pa sp su re ga br sk dr fe tr rt mt mf nz bd then amL pi he dr rt (Prod.snd (Prod.snd (lil_g (ops, cells, false, List.replicate (Int.toNat cells) ((0 : Int), (0 : Int)), pi, he, wa, tp, bo, pa, sp, su, re, ga, br, sk, dr, fe, tr, rt, mt, mf, nz, bd) (IntKind.wrap IntKind.i64 ((0 : Int) + (1 : Int)), [((3 : Int), (0 : Int), (0 : Int), (0 : Int), (0 : Int), List.replicate (Int.toNat cells) ((0 : Int), (0 : Int)))])))) else [])) : Int) == (0 : Int) else false then true else false else bif bif bif (bif sv pi he wa tp bo pa sp su re ga br sk dr fe tr rt mt mf nz bd then amC (Prod.snd (Prod.snd (lil_g (ops, cells, false, List.replicate (Int.toNat cells) ((0 : Int), (0 : Int)), pi, he, wa, tp, bo, pa, sp, su, re, ga, br, sk, dr, fe, tr, rt, mt, mf, nz, bd) (IntKind.wrap IntKind.i64 ((0 : Int) + (1 : Int)), [((3 : Int), (0 : Int), (0 : Int), (0 : Int), (0 : Int), List.replicate (Int.toNat cells) ((0 : Int), (0 : Int)))])))) else (1 : Int)) == (0 : Int) then (↑(List.length (bif sv pi he wa tp bo pa sp su re ga br sk dr fe tr rt mt mf nz bd then amL pi he dr rt (Prod.snd (Prod.snd (lil_g (ops, cells, false, List.replicate (Int.toNat cells) ((0 : Int), (0 : Int)), pi, he, wa, tp, bo, pa, sp, su, re, ga, br, sk, dr, fe, tr, rt, mt, mf, nz, bd) (IntKind.wrap IntKind.i64 ((0 : Int) + (1 : Int)), [((3 : Int), (0 : Int), (0 : Int), (0 : Int), (0 : Int), List.replicate (Int.toNat cells) ((0 : Int), (0 : Int)))])))) else [])) : Int) == ops else false then bif ops == (0 : Int) then true else el_i (bif sv pi he wa tp bo pa sp su re ga br sk dr fe tr rt mt mf nz bd then amL pi he dr rt (Prod.snd (Prod.snd (lil_g (ops, cells, false, List.replicate (Int.toNat cells) ((0 : Int), (0 : Int)), pi, he, wa, tp, bo, pa, sp, su, re, ga, br, sk, dr, fe, tr, rt, mt, mf, nz, bd) (IntKind.wrap IntKind.i64 ((0 : Int) + (1 : Int)), [((3 : Int), (0 : Int), (0 : Int), (0 : Int), (0 : Int), List.replicate (Int.toNat cells) ((0 : Int), (0 : Int)))])))) else []) (IntKind.wrap IntKind.i64 (ops - (1 : Int))) == IntKind.wrap IntKind.i64 (Int.tdiv (IntKind.wrap IntKind.i64 (IntKind.wrap IntKind.i64 (IntKind.wrap IntKind.i64 (IntKind.wrap IntKind.i64 (ops * cells) * pi) * pi) * he)) dr) else false then true else false else bif decide (IntKind.wrap IntKind.i64 (ops * cells) > (1048576 : Int)) then bif bif (bif sv pi he wa tp bo pa sp su re ga br sk dr fe tr rt mt mf nz bd then amC [] else (1 : Int)) == (2 : Int) then (↑(List.length (bif sv pi he wa tp bo pa sp su re ga br sk dr fe tr rt mt mf nz bd then amL pi he dr rt [] else [])) : Int) == (0 : Int) else false then true else false else bif bif bif (bif sv pi he wa tp bo pa sp su re ga br sk dr fe tr rt mt mf nz bd then amC [] else (1 : Int)) == (0 : Int) then (↑(List.length (bif sv pi he wa tp bo pa sp su re ga br sk dr fe tr rt mt mf nz bd then amL pi he dr rt [] else [])) : Int) == ops else false then bif ops == (0 : Int) then true else el_i (bif sv pi he wa tp bo pa sp su re ga br sk dr fe tr rt mt mf nz bd then amL pi he dr rt [] else []) (IntKind.wrap IntKind.i64 (ops - (1 : Int))) == IntKind.wrap IntKind.i64 (Int.tdiv (IntKind.wrap IntKind.i64 (IntKind.wrap IntKind.i64 (IntKind.wrap IntKind.i64 (IntKind.wrap IntKind.i64 (ops * cells) * pi) * pi) * he)) dr) else false then true else false))))) (.bad 116) := by kernel_rfl
set_option maxHeartbeats 4000000 in
theorem law_FlowLimits_all (pi : Int) (he : Int) (wa : Int) (tp : Int) (bo : Int) (pa : Int) (sp : Int) (su : Bool) (re : Int) (ga : Int) (br : Int) (sk : Int) (dr : Int) (fe : Int) (tr : Int) (rt : Int) (mt : Int) (mf : Int) (nz : Int) (bd : Int) (ops : Int) (cells : Int) (r0 : Ty.InR (.prod (.int .i64) (.prod (.int .i64) (.prod (.int .i64) (.prod (.int .i64) (.prod (.int .i64) (.prod (.int .i64) (.prod (.int .i64) (.prod .bool (.prod (.int .i64) (.prod (.int .i64) (.prod (.int .i64) (.prod (.int .i64) (.prod (.int .i64) (.prod (.int .i64) (.prod (.int .i64) (.prod (.int .i64) (.prod (.int .i64) (.prod (.int .i64) (.prod (.int .i64) (.int .i64)))))))))))))))))))) (pi, (he, (wa, (tp, (bo, (pa, (sp, (su, (re, (ga, (br, (sk, (dr, (fe, (tr, (rt, (mt, (mf, (nz, bd)))))))))))))))))))) (l1 : -9223372036854775808 ≤ ops) (g1 : ops ≤ 9223372036854775807) (l2 : -9223372036854775808 ≤ cells) (g2 : cells ≤ 9223372036854775807) : Tr.all (fun r => ∃ kn, r = AV.one (.v kn (.bool true))) (.br ((bif bif bif bif bif decide (ops < (0 : Int)) then true else decide (ops > (300 : Int)) then true else decide (cells < (0 : Int)) then true else decide (cells > (8192 : Int)) then true else !sv pi he wa tp bo pa sp su re ga br sk dr fe tr rt mt mf nz bd then true else ((decide ((0 : Int) ≤ cells) && decide (cells ≤ cells) && decide ((↑(16 : Nat) : Int) * cells ≤ (281474976710656 : Int)) && decide (cells ≤ (9223372036854775807 : Int))) && (bif decide ((0 : Int) < ops) then ((lil_cond (ops, cells, false, List.replicate (Int.toNat cells) ((0 : Int), (0 : Int)), pi, he, wa, tp, bo, pa, sp, su, re, ga, br, sk, dr, fe, tr, rt, mt, mf, nz, bd) (IntKind.wrap IntKind.i64 ((0 : Int) + (1 : Int)), [((3 : Int), (0 : Int), (0 : Int), (0 : Int), (0 : Int), List.replicate (Int.toNat cells) ((0 : Int), (0 : Int)))])) && ((Nat.beq (Prod.fst (lil_g (ops, cells, false, List.replicate (Int.toNat cells) ((0 : Int), (0 : Int)), pi, he, wa, tp, bo, pa, sp, su, re, ga, br, sk, dr, fe, tr, rt, mt, mf, nz, bd) (IntKind.wrap IntKind.i64 ((0 : Int) + (1 : Int)), [((3 : Int), (0 : Int), (0 : Int), (0 : Int), (0 : Int), List.replicate (Int.toNat cells) ((0 : Int), (0 : Int)))]))) (0 : Nat)) && ((opsOk (Prod.snd (Prod.snd (lil_g (ops, cells, false, List.replicate (Int.toNat cells) ((0 : Int), (0 : Int)), pi, he, wa, tp, bo, pa, sp, su, re, ga, br, sk, dr, fe, tr, rt, mt, mf, nz, bd) (IntKind.wrap IntKind.i64 ((0 : Int) + (1 : Int)), [((3 : Int), (0 : Int), (0 : Int), (0 : Int), (0 : Int), List.replicate (Int.toNat cells) ((0 : Int), (0 : Int)))]))))) && (bif decide (IntKind.wrap IntKind.i64 (ops * cells) > (1048576 : Int)) then true else ((bif bif (bif sv pi he wa tp bo pa sp su re ga br sk dr fe tr rt mt mf nz bd then amC (Prod.snd (Prod.snd (lil_g (ops, cells, false, List.replicate (Int.toNat cells) ((0 : Int), (0 : Int)), pi, he, wa, tp, bo, pa, sp, su, re, ga, br, sk, dr, fe, tr, rt, mt, mf, nz, bd) (IntKind.wrap IntKind.i64 ((0 : Int) + (1 : Int)), [((3 : Int), (0 : Int), (0 : Int), (0 : Int), (0 : Int), List.replicate (Int.toNat cells) ((0 : Int), (0 : Int)))])))) else (1 : Int)) == (0 : Int) then (↑(List.length (bif sv pi he wa tp bo pa sp su re ga br sk dr fe tr rt mt mf nz bd then amL pi he dr rt (Prod.snd (Prod.snd (lil_g (ops, cells, false, List.replicate (Int.toNat cells) ((0 : Int), (0 : Int)), pi, he, wa, tp, bo, pa, sp, su, re, ga, br, sk, dr, fe, tr, rt, mt, mf, nz, bd) (IntKind.wrap IntKind.i64 ((0 : Int) + (1 : Int)), [((3 : Int), (0 : Int), (0 : Int), (0 : Int), (0 : Int), List.replicate (Int.toNat cells) ((0 : Int), (0 : Int)))])))) else [])) : Int) == ops else false then (bif ops == (0 : Int) then true else ((decide ((0 : Int) ≤ IntKind.wrap IntKind.i64 (ops - (1 : Int))) && decide (IntKind.wrap IntKind.i64 (ops - (1 : Int)) < (↑(List.length (bif sv pi he wa tp bo pa sp su re ga br sk dr fe tr rt mt mf nz bd then amL pi he dr rt (Prod.snd (Prod.snd (lil_g (ops, cells, false, List.replicate (Int.toNat cells) ((0 : Int), (0 : Int)), pi, he, wa, tp, bo, pa, sp, su, re, ga, br, sk, dr, fe, tr, rt, mt, mf, nz, bd) (IntKind.wrap IntKind.i64 ((0 : Int) + (1 : Int)), [((3 : Int), (0 : Int), (0 : Int), (0 : Int), (0 : Int), List.replicate (Int.toNat cells) ((0 : Int), (0 : Int)))])))) else [])) : Int))) && (dr != (0 : Int)))) else true)))))) else ((true) && (bif decide (IntKind.wrap IntKind.i64 (ops * cells) > (1048576 : Int)) then true else ((bif bif (bif sv pi he wa tp bo pa sp su re ga br sk dr fe tr rt mt mf nz bd then amC [] else (1 : Int)) == (0 : Int) then (↑(List.length (bif sv pi he wa tp bo pa sp su re ga br sk dr fe tr rt mt mf nz bd then amL pi he dr rt [] else [])) : Int) == ops else false then (bif ops == (0 : Int) then true else ((decide ((0 : Int) ≤ IntKind.wrap IntKind.i64 (ops - (1 : Int))) && decide (IntKind.wrap IntKind.i64 (ops - (1 : Int)) < (↑(List.length (bif sv pi he wa tp bo pa sp su re ga br sk dr fe tr rt mt mf nz bd then amL pi he dr rt [] else [])) : Int))) && (dr != (0 : Int)))) else true)))))))) (.ret (.one (.v false (.bool (bif bif bif bif bif decide (ops < (0 : Int)) then true else decide (ops > (300 : Int)) then true else decide (cells < (0 : Int)) then true else decide (cells > (8192 : Int)) then true else !sv pi he wa tp bo pa sp su re ga br sk dr fe tr rt mt mf nz bd then true else bif decide ((0 : Int) < ops) then bif decide (IntKind.wrap IntKind.i64 (ops * cells) > (1048576 : Int)) then bif bif (bif sv pi he wa tp bo pa sp su re ga br sk dr fe tr rt mt mf nz bd then amC (Prod.snd (Prod.snd (lil_g (ops, cells, false, List.replicate (Int.toNat cells) ((0 : Int), (0 : Int)), pi, he, wa, tp, bo, pa, sp, su, re, ga, br, sk, dr, fe, tr, rt, mt, mf, nz, bd) (IntKind.wrap IntKind.i64 ((0 : Int) + (1 : Int)), [((3 : Int), (0 : Int), (0 : Int), (0 : Int), (0 : Int), List.replicate (Int.toNat cells) ((0 : Int), (0 : Int)))])))) else (1 : Int)) == (2 : Int) then (↑(List.length (bif sv pi he wa tp bo pa sp su re ga br sk dr fe tr rt mt mf nz bd then amL pi he dr rt (Prod.snd (Prod.snd (lil_g (ops, cells, false, List.replicate (Int.toNat cells) ((0 : Int), (0 : Int)), pi, he, wa, tp, bo, pa, sp, su, re, ga, br, sk, dr, fe, tr, rt, mt, mf, nz, bd) (IntKind.wrap IntKind.i64 ((0 : Int) + (1 : Int)), [((3 : Int), (0 : Int), (0 : Int), (0 : Int), (0 : Int), List.replicate (Int.toNat cells) ((0 : Int), (0 : Int)))])))) else [])) : Int) == (0 : Int) else false then true else false else bif bif bif (bif sv pi he wa tp bo pa sp su re ga br sk dr fe tr rt mt mf nz bd then amC (Prod.snd (Prod.snd (lil_g (ops, cells, false, List.replicate (Int.toNat cells) ((0 : Int), (0 : Int)), pi, he, wa, tp, bo, pa, sp, su, re, ga, br, sk, dr, fe, tr, rt, mt, mf, nz, bd) (IntKind.wrap IntKind.i64 ((0 : Int) + (1 : Int)), [((3 : Int), (0 : Int), (0 : Int), (0 : Int), (0 : Int), List.replicate (Int.toNat cells) ((0 : Int), (0 : Int)))])))) else (1 : Int)) == (0 : Int) then (↑(List.length (bif sv pi he wa tp bo pa sp su re ga br sk dr fe tr rt mt mf nz bd then amL pi he dr rt (Prod.snd (Prod.snd (lil_g (ops, cells, false, List.replicate (Int.toNat cells) ((0 : Int), (0 : Int)), pi, he, wa, tp, bo, pa, sp, su, re, ga, br, sk, dr, fe, tr, rt, mt, mf, nz, bd) (IntKind.wrap IntKind.i64 ((0 : Int) + (1 : Int)), [((3 : Int), (0 : Int), (0 : Int), (0 : Int), (0 : Int), List.replicate (Int.toNat cells) ((0 : Int), (0 : Int)))])))) else [])) : Int) == ops else false then bif ops == (0 : Int) then true else el_i (bif sv pi he wa tp bo pa sp su re ga br sk dr fe tr rt mt mf nz bd then amL pi he dr rt (Prod.snd (Prod.snd (lil_g (ops, cells, false, List.replicate (Int.toNat cells) ((0 : Int), (0 : Int)), pi, he, wa, tp, bo, pa, sp, su, re, ga, br, sk, dr, fe, tr, rt, mt, mf, nz, bd) (IntKind.wrap IntKind.i64 ((0 : Int) + (1 : Int)), [((3 : Int), (0 : Int), (0 : Int), (0 : Int), (0 : Int), List.replicate (Int.toNat cells) ((0 : Int), (0 : Int)))])))) else []) (IntKind.wrap IntKind.i64 (ops - (1 : Int))) == IntKind.wrap IntKind.i64 (Int.tdiv (IntKind.wrap IntKind.i64 (IntKind.wrap IntKind.i64 (IntKind.wrap IntKind.i64 (IntKind.wrap IntKind.i64 (ops * cells) * pi) * pi) * he)) dr) else false then true else false else bif decide (IntKind.wrap IntKind.i64 (ops * cells) > (1048576 : Int)) then bif bif (bif sv pi he wa tp bo pa sp su re ga br sk dr fe tr rt mt mf nz bd then amC [] else (1 : Int)) == (2 : Int) then (↑(List.length (bif sv pi he wa tp bo pa sp su re ga br sk dr fe tr rt mt mf nz bd then amL pi he dr rt [] else [])) : Int) == (0 : Int) else false then true else false else bif bif bif (bif sv pi he wa tp bo pa sp su re ga br sk dr fe tr rt mt mf nz bd then amC [] else (1 : Int)) == (0 : Int) then (↑(List.length (bif sv pi he wa tp bo pa sp su re ga br sk dr fe tr rt mt mf nz bd then amL pi he dr rt [] else [])) : Int) == ops else false then bif ops == (0 : Int) then true else el_i (bif sv pi he wa tp bo pa sp su re ga br sk dr fe tr rt mt mf nz bd then amL pi he dr rt [] else []) (IntKind.wrap IntKind.i64 (ops - (1 : Int))) == IntKind.wrap IntKind.i64 (Int.tdiv (IntKind.wrap IntKind.i64 (IntKind.wrap IntKind.i64 (IntKind.wrap IntKind.i64 (IntKind.wrap IntKind.i64 (ops * cells) * pi) * pi) * he)) dr) else false then true else false))))) (.bad 116)) := by
  have w0 : IntKind.wrap IntKind.i64 ((0 : Int) + (1 : Int)) = 1 := rfl
  have hg : (bif bif bif bif decide (ops < (0 : Int)) then true else decide (ops > (300 : Int)) then true else decide (cells < (0 : Int)) then true else decide (cells > (8192 : Int)) then true else !sv pi he wa tp bo pa sp su re ga br sk dr fe tr rt mt mf nz bd) = !(decide (0 ≤ ops ∧ ops ≤ 300 ∧ 0 ≤ cells ∧ cells ≤ 8192) && sv pi he wa tp bo pa sp su re ga br sk dr fe tr rt mt mf nz bd) := by
    generalize sv pi he wa tp bo pa sp su re ga br sk dr fe tr rt mt mf nz bd = V
    rw [Bool.eq_iff_iff]
    cases V <;> simp [Bool.cond_eq_ite] <;> omega
  cases hQ : (decide (0 ≤ ops ∧ ops ≤ 300 ∧ 0 ≤ cells ∧ cells ≤ 8192) && sv pi he wa tp bo pa sp su re ga br sk dr fe tr rt mt mf nz bd)
  · simp only [hg, hQ, Bool.not_false, cond_true]
    exact ⟨fun _ => ⟨_, rfl⟩, fun h => by cases h⟩
  rw [Bool.and_eq_true, decide_eq_true_eq] at hQ
  obtain ⟨⟨o1, o2, c1, c2⟩, hs⟩ := hQ
  obtain ⟨n, rfl⟩ : ∃ n : Nat, ops = n := ⟨ops.toNat, by omega⟩
  obtain ⟨c, rfl⟩ : ∃ c : Nat, cells = c := ⟨cells.toNat, by omega⟩
  have hk : (decide ((0 : Int) ≤ (c : Int)) && decide ((c : Int) ≤ (c : Int)) && decide (((16 : Nat) : Int) * (c : Int) ≤ (281474976710656 : Int)) && decide ((c : Int) ≤ (9223372036854775807 : Int))) = true := by
    simp only [Bool.and_eq_true, decide_eq_true_eq]
    omega
  clear hg
  have d1 : decide ((n : Int) < (0 : Int)) = false := decide_eq_false (by omega)
  have d2 : decide ((n : Int) > (300 : Int)) = false := decide_eq_false (by omega)
  have d3 : decide ((c : Int) < (0 : Int)) = false := decide_eq_false (by omega)
  have d4 : decide ((c : Int) > (8192 : Int)) = false := decide_eq_false (by omega)
  simp only [d1, d2, d3, d4, hk, hs, w0, Bool.not_true, cond_false, cond_true, Bool.true_and]
  clear d1 d2
  obtain ⟨s1, s2, s3, s4, _⟩ := sv_in hs
  have hdr : (dr != 0) = true := by simp; omega
  cases n with
  | zero =>
    have e1 : decide ((0 : Int) < ((0 : Nat) : Int)) = false := rfl
    have e2 : IntKind.wrap IntKind.i64 (((0 : Nat) : Int) * (c : Int)) = 0 := by
      rw [show ((0 : Nat) : Int) * (c : Int) = 0 from Int.zero_mul _]; rfl
    have e3 : decide ((0 : Int) > 1048576) = false := rfl
    have e4 : (((0 : Nat) : Int) == 0) = true := rfl
    have e5 : ((([] : List Int).length : Nat) : Int) = 0 := rfl
    have e6 : ((0 : Int) == ((0 : Nat) : Int)) = true := rfl
    simp only [e1, e2, e3, e4, e5, e6, nil_am (pi := pi) (he := he) (dr := dr) (rt := rt), cond_false, cond_true, beq_self_eq_true]
    exact ⟨fun _ => ⟨_, rfl⟩, fun h => by cases h⟩
  | succ n =>
    have e1 : decide ((0 : Int) < ((n + 1 : Nat) : Int)) = true := decide_eq_true (by omega)
    obtain ⟨r1, r2⟩ := lil_run (m := n) (c := (c : Int)) (pi := pi) (he := he) (wa := wa) (tp := tp) (bo := bo) (pa := pa) (sp := sp) (su := su) (re := re) (ga := ga) (br := br) (sk := sk) (dr := dr) (fe := fe) (tr := tr) (rt := rt) (mt := mt) (mf := mf) (nz := nz) (bd := bd) (by omega)
    unfold opC lRow at r1 r2
    have ok := rp_ok (n := n + 1) (c := c) (by omega) (by omega)
    have hm0 : 0 ≤ ((n + 1 : Nat) : Int) * (c : Int) := Int.mul_nonneg (by omega) (by omega)
    have hm1 : ((n + 1 : Nat) : Int) * (c : Int) ≤ 300 * 8192 := Int.mul_le_mul (by omega) (by omega) (by omega) (by omega)
    have w1 : IntKind.wrap IntKind.i64 (((n + 1 : Nat) : Int) * (c : Int)) = ((n + 1 : Nat) : Int) * (c : Int) := wid (by omega) (by omega)
    have z0 : Nat.beq 0 0 = true := rfl
    have e4 : (((n + 1 : Nat) : Int) == 0) = false := beq_eq_false_iff_ne.2 (by omega)
    unfold opC lRow at ok
    by_cases hB : ((n + 1 : Nat) : Int) * (c : Int) > 1048576
    · obtain ⟨a1, a2⟩ := rp_no (pi := pi) (he := he) (dr := dr) (rt := rt) (n := n + 1) (c := c) (by omega) hB
      unfold opC lRow at a1 a2
      have e5 : ((([] : List Int).length : Nat) : Int) = 0 := rfl
      simp only [e1, r1, r2, z0, ok, w1, decide_eq_true hB, a1, a2, e5, cond_true, Bool.and_self, beq_self_eq_true]
      exact ⟨fun _ => ⟨_, rfl⟩, fun h => by cases h⟩
    · obtain ⟨a1, a2⟩ := rp_yes (pi := pi) (he := he) (dr := dr) (rt := rt) (n := n + 1) (c := c) (by omega) hB
      have w2 : IntKind.wrap IntKind.i64 (((n + 1 : Nat) : Int) - 1) = (n : Int) := by rw [wid (by omega) (by omega)]; omega
      have V := vol_in s1 s2 (n := ((n + 1 : Nat) : Int) * (c : Int)) ⟨hm0, by omega⟩
      have q1 : vol pi he (((n + 1 : Nat) : Int) * (c : Int)) / dr ≤ vol pi he (((n + 1 : Nat) : Int) * (c : Int)) := Int.ediv_le_self _ V.2.1
      have q0 : 0 ≤ vol pi he (((n + 1 : Nat) : Int) * (c : Int)) / dr := Int.ediv_nonneg V.2.1 (by omega)
      have w3 : IntKind.wrap IntKind.i64 (vol pi he (((n + 1 : Nat) : Int) * (c : Int)) / dr) = vol pi he (((n + 1 : Nat) : Int) * (c : Int)) / dr := wid (by omega) (by omega)
      have hz : el_i (tab (n + 1) (pz pi he dr rt (List.replicate (n + 1) (opC (c : Int))))) (n : Int) = vol pi he (((n + 1 : Nat) : Int) * (c : Int)) / dr := by
        show elm (.int .i64) _ (n : Int) = _
        rw [elm_lt (t := .int .i64) (by rw [tab_length]; omega)]
        have := tab_get? (n := n + 1) (f := pz pi he dr rt (List.replicate (n + 1) (opC (c : Int)))) (i := n) (by omega)
        rw [List.getElem?_eq_getElem (by rw [tab_length]; omega)] at this
        rw [Option.some.inj this]
        unfold pz
        rw [rp_nb (n + 1) (Nat.le_refl _)]; rfl
      have hl : (((tab (n + 1) (pz pi he dr rt (List.replicate (n + 1) (opC (c : Int))))).length : Nat) : Int) = ((n + 1 : Nat) : Int) := by rw [tab_length]
      have d1 : decide ((0 : Int) ≤ (n : Int)) = true := decide_eq_true (by omega)
      have d2 : decide ((n : Int) < ((n + 1 : Nat) : Int)) = true := decide_eq_true (by omega)
      unfold opC lRow at a1 a2 hz hl
      simp only [e1, r1, r2, z0, ok, w1, decide_eq_false hB, a1, a2, hl, e4, w2, d1, d2, hdr, hz, V.1, tdiv_nn V.2.1, w3, cond_true, cond_false, Bool.and_self, beq_self_eq_true]
      exact ⟨fun _ => ⟨_, rfl⟩, fun h => by cases h⟩
set_option maxHeartbeats 4000000 in
theorem law_FlowLimits (v0 : Value) (x0 : ((.prod (.int .i64) (.prod (.int .i64) (.prod (.int .i64) (.prod (.int .i64) (.prod (.int .i64) (.prod (.int .i64) (.prod (.int .i64) (.prod .bool (.prod (.int .i64) (.prod (.int .i64) (.prod (.int .i64) (.prod (.int .i64) (.prod (.int .i64) (.prod (.int .i64) (.prod (.int .i64) (.prod (.int .i64) (.prod (.int .i64) (.prod (.int .i64) (.prod (.int .i64) (.int .i64)))))))))))))))))))) : Ty).den) (r0 : Ty.InR (.prod (.int .i64) (.prod (.int .i64) (.prod (.int .i64) (.prod (.int .i64) (.prod (.int .i64) (.prod (.int .i64) (.prod (.int .i64) (.prod .bool (.prod (.int .i64) (.prod (.int .i64) (.prod (.int .i64) (.prod (.int .i64) (.prod (.int .i64) (.prod (.int .i64) (.prod (.int .i64) (.prod (.int .i64) (.prod (.int .i64) (.prod (.int .i64) (.prod (.int .i64) (.int .i64)))))))))))))))))))) x0) (ops : Int) (l1 : -9223372036854775808 ≤ ops) (g1 : ops ≤ 9223372036854775807) (cells : Int) (l2 : -9223372036854775808 ≤ cells) (g2 : cells ≤ 9223372036854775807) (z_w : World) (i0 : (AV.ag (Ty.cells false (.prod (.int .i64) (.prod (.int .i64) (.prod (.int .i64) (.prod (.int .i64) (.prod (.int .i64) (.prod (.int .i64) (.prod (.int .i64) (.prod .bool (.prod (.int .i64) (.prod (.int .i64) (.prod (.int .i64) (.prod (.int .i64) (.prod (.int .i64) (.prod (.int .i64) (.prod (.int .i64) (.prod (.int .i64) (.prod (.int .i64) (.prod (.int .i64) (.prod (.int .i64) (.int .i64)))))))))))))))))))) x0)).is [] (fun _ => none) (fun b => b < z_w.heap.size) z_w v0) : Calls Try.prog 3 #[v0, .int .i64 ops, .int .i64 cells] z_w fun e w' => e = .returned (.bool true) ∧ Ext z_w w' := by
  obtain ⟨pi, ⟨he, ⟨wa, ⟨tp, ⟨bo, ⟨pa, ⟨sp, ⟨su, ⟨re, ⟨ga, ⟨br, ⟨sk, ⟨dr, ⟨fe, ⟨tr, ⟨rt, ⟨mt, ⟨mf, ⟨nz, bd⟩⟩⟩⟩⟩⟩⟩⟩⟩⟩⟩⟩⟩⟩⟩⟩⟩⟩⟩ := x0
  refine law_of_tree (by kernel_rfl) (flD_S63_ok) (flE_L61_ok) (law_FlowLimits_tree pi he wa tp bo pa sp su re ga br sk dr fe tr rt mt mf nz bd ops cells) (law_FlowLimits_all pi he wa tp bo pa sp su re ga br sk dr fe tr rt mt mf nz bd ops cells r0 l1 g1 l2 g2) rfl z_w _ _ (fun _ h => h) ⟨_, _, rfl, i0, ⟨_, _, rfl, rfl, ⟨_, _, rfl, rfl, rfl⟩⟩⟩
end Go.Proofs.Ytfceajcfackidaa
