/-
  Layer 35: the loops of FlowExact, FlowLimits.
-/
import Derived.Test.YtpobbjgiglcecaaProg
import Derived.Test.YtpobbjgiglcecaaFvX
import Derived.Test.YtpobbjgiglcecaaFvZ
import Derived.Test.YtpobbjgiglcecaaAut
import Derived.Test.YtpobbjgiglcecaaRd
import Derived.Test.YtpobbjgiglcecaaPl
import Derived.Test.YtpobbjgiglcecaaFlA
import Derived.Test.YtpobbjgiglcecaaFlB
import Derived.Test.YtpobbjgiglcecaaFlC
import Derived.Test.YtpobbjgiglcecaaFlM
import Derived.Test.YtpobbjgiglcecaaFlD
namespace Go.Proofs.Ytpobbjgiglcecaa
open Go
abbrev lex_U : Type := (Ty.list (.prod (.int .i64) (.prod (.int .i64) (.prod (.int .i64) (.prod (.int .i64) (.prod (.int .i64) (.list (.prod (.int .i64) (.int .i64))))))))).den × (Ty.list (.int .i64)).den × Int × Int × Int × Int × Int × Int × Int × Bool × Int × Int × Int × Int × Int × Int × Int × Int × Int × Int × Int × Int
abbrev lex_V : Type := Bool × Int × Bool × Int
noncomputable def lex_St (u : lex_U) (v : lex_V) : Stt := ⟨[.one (.d false false (.prod (.int .i64) (.prod (.int .i64) (.prod (.int .i64) (.prod (.int .i64) (.prod (.int .i64) (.list (.prod (.int .i64) (.int .i64)))))))) u.1), .one .junk, .one .junk, .one (.p 0 0), .one (.v false (.bool v.1)), .one (.d false false (.int .i64) u.2.1), .one .junk, .one (.v false (.int .i64 v.2.1)), .one (.v false (.bool v.2.2.1)), .one (.v false (.int .i64 v.2.2.2)), .one .junk, .one .junk, .one .junk, .one .junk, .one .junk, .one .junk, .one .junk, .one .junk, .one .junk, .one .junk, .one .junk, .one .junk, .one .junk, .one .junk, .one .junk, .one .junk, .one .junk, .one .junk, .one .junk, .one .junk, .one .junk, .one .junk, .one .junk, .one .junk, .one .junk, .one .junk, .one .junk, .one .junk, .one .junk, .one .junk, .one .junk, .one .junk, .one .junk, .one .junk, .one .junk, .one .junk, .one .junk, .one .junk, .one .junk, .one .junk, .one .junk, .one .junk, .one .junk, .one .junk, .one .junk, .one .junk, .one .junk, .one .junk, .one .junk, .one .junk, .one .junk, .one .junk, .one .junk, .one .junk, .one .junk, .one .junk, .one .junk, .one .junk, .one .junk, .one .junk, .one .junk, .one .junk, .one .junk, .one .junk, .one .junk, .one .junk, .one .junk, .one .junk, .one .junk, .one .junk, .one .junk, .one .junk, .one .junk, .one .junk, .one .junk, .one .junk, .one .junk, .one .junk, .one .junk, .one .junk, .one .junk, .one .junk, .one .junk, .one .junk, .one .junk, .one .junk, .one .junk, .one .junk, .one .junk, .one .junk, .one .junk, .one .junk], [(0, .cells [.v false (.int .i64 u.2.2.1), .v false (.int .i64 u.2.2.2.1), .v false (.int .i64 u.2.2.2.2.1), .v false (.int .i64 u.2.2.2.2.2.1), .v false (.int .i64 u.2.2.2.2.2.2.1), .v false (.int .i64 u.2.2.2.2.2.2.2.1), .v false (.int .i64 u.2.2.2.2.2.2.2.2.1), .v false (.bool u.2.2.2.2.2.2.2.2.2.1), .v false (.int .i64 u.2.2.2.2.2.2.2.2.2.2.1), .v false (.int .i64 u.2.2.2.2.2.2.2.2.2.2.2.1), .v false (.int .i64 u.2.2.2.2.2.2.2.2.2.2.2.2.1), .v false (.int .i64 u.2.2.2.2.2.2.2.2.2.2.2.2.2.1), .v false (.int .i64 u.2.2.2.2.2.2.2.2.2.2.2.2.2.2.1), .v false (.int .i64 u.2.2.2.2.2.2.2.2.2.2.2.2.2.2.2.1), .v false (.int .i64 u.2.2.2.2.2.2.2.2.2.2.2.2.2.2.2.2.1), .v false (.int .i64 u.2.2.2.2.2.2.2.2.2.2.2.2.2.2.2.2.2.1), .v false (.int .i64 u.2.2.2.2.2.2.2.2.2.2.2.2.2.2.2.2.2.2.1), .v false (.int .i64 u.2.2.2.2.2.2.2.2.2.2.2.2.2.2.2.2.2.2.2.1), .v false (.int .i64 u.2.2.2.2.2.2.2.2.2.2.2.2.2.2.2.2.2.2.2.2.1), .v false (.int .i64 u.2.2.2.2.2.2.2.2.2.2.2.2.2.2.2.2.2.2.2.2.2)])], 1023⟩
noncomputable def lex_step (u : lex_U) (v : lex_V) : Tr (lex_V ⊕ (Nat × lex_V)) :=
  match u, v with
  | (q0, q2, q6, q7, _, _, _, _, _, _, _, _, _, _, q18, _, _, q21, _, _, _, _), (q1, q3, q4, q5) => .br (decide (q5 < (↑(List.length q0) : Int))) (.br (decide ((0 : Int) ≤ q5) && decide (q5 < (↑(List.length q0) : Int))) (.br (Prod.fst (el_iiiiilii q0 q5) == (3 : Int)) (.br (decide ((0 : Int) ≤ q5) && decide (q5 < (↑(List.length q0) : Int))) (.br (decide ((0 : Int) ≤ q5) && decide (q5 < (↑(List.length q2) : Int))) (.br (q4) (.br (bif decide (IntKind.wrap IntKind.i64 (IntKind.wrap IntKind.i64 (el_i q2 q5 + q21) * q18) > IntKind.wrap IntKind.i64 (IntKind.wrap IntKind.i64 (IntKind.wrap IntKind.i64 (IntKind.wrap IntKind.i64 (q3 + (↑(List.length (Prod.snd (Prod.snd (Prod.snd (Prod.snd (Prod.snd (el_iiiiilii q0 q5))))))) : Int)) * q6) * q6) * q7)) then true else decide (IntKind.wrap IntKind.i64 (IntKind.wrap IntKind.i64 (el_i q2 q5 + q21) * q18) ≤ IntKind.wrap IntKind.i64 (IntKind.wrap IntKind.i64 (IntKind.wrap IntKind.i64 (IntKind.wrap IntKind.i64 (IntKind.wrap IntKind.i64 (q3 + (↑(List.length (Prod.snd (Prod.snd (Prod.snd (Prod.snd (Prod.snd (el_iiiiilii q0 q5))))))) : Int)) * q6) * q6) * q7) - q18))) (.ret (.inr (0, (false, IntKind.wrap IntKind.i64 (q3 + (↑(List.length (Prod.snd (Prod.snd (Prod.snd (Prod.snd (Prod.snd (el_iiiiilii q0 q5))))))) : Int)), q4, q5)))) (.ret (.inl (q1, IntKind.wrap IntKind.i64 (q3 + (↑(List.length (Prod.snd (Prod.snd (Prod.snd (Prod.snd (Prod.snd (el_iiiiilii q0 q5))))))) : Int)), q4, IntKind.wrap IntKind.i64 (q5 + (1 : Int)))))) (.br (bif decide (IntKind.wrap IntKind.i64 (el_i q2 q5 * q18) > IntKind.wrap IntKind.i64 (IntKind.wrap IntKind.i64 (IntKind.wrap IntKind.i64 (IntKind.wrap IntKind.i64 (q3 + (↑(List.length (Prod.snd (Prod.snd (Prod.snd (Prod.snd (Prod.snd (el_iiiiilii q0 q5))))))) : Int)) * q6) * q6) * q7)) then true else decide (IntKind.wrap IntKind.i64 (el_i q2 q5 * q18) ≤ IntKind.wrap IntKind.i64 (IntKind.wrap IntKind.i64 (IntKind.wrap IntKind.i64 (IntKind.wrap IntKind.i64 (IntKind.wrap IntKind.i64 (q3 + (↑(List.length (Prod.snd (Prod.snd (Prod.snd (Prod.snd (Prod.snd (el_iiiiilii q0 q5))))))) : Int)) * q6) * q6) * q7) - q18))) (.ret (.inr (0, (false, IntKind.wrap IntKind.i64 (q3 + (↑(List.length (Prod.snd (Prod.snd (Prod.snd (Prod.snd (Prod.snd (el_iiiiilii q0 q5))))))) : Int)), q4, q5)))) (.ret (.inl (q1, IntKind.wrap IntKind.i64 (q3 + (↑(List.length (Prod.snd (Prod.snd (Prod.snd (Prod.snd (Prod.snd (el_iiiiilii q0 q5))))))) : Int)), q4, IntKind.wrap IntKind.i64 (q5 + (1 : Int))))))) (.bad 29)) (.bad 29)) (.br (Prod.fst (el_iiiiilii q0 q5) == (4 : Int)) (.br (decide ((0 : Int) ≤ q5) && decide (q5 < (↑(List.length q2) : Int))) (.br (bif decide (IntKind.wrap IntKind.i64 (IntKind.wrap IntKind.i64 (el_i q2 q5 + q21) * q18) > IntKind.wrap IntKind.i64 (IntKind.wrap IntKind.i64 (IntKind.wrap IntKind.i64 (q3 * q6) * q6) * q7)) then true else decide (IntKind.wrap IntKind.i64 (IntKind.wrap IntKind.i64 (el_i q2 q5 + q21) * q18) ≤ IntKind.wrap IntKind.i64 (IntKind.wrap IntKind.i64 (IntKind.wrap IntKind.i64 (IntKind.wrap IntKind.i64 (q3 * q6) * q6) * q7) - q18))) (.ret (.inr (0, (false, q3, true, q5)))) (.ret (.inl (q1, q3, true, IntKind.wrap IntKind.i64 (q5 + (1 : Int)))))) (.bad 29)) (.br (Prod.fst (el_iiiiilii q0 q5) == (5 : Int)) (.br (decide ((0 : Int) ≤ q5) && decide (q5 < (↑(List.length q2) : Int))) (.br (bif decide (IntKind.wrap IntKind.i64 (el_i q2 q5 * q18) > IntKind.wrap IntKind.i64 (IntKind.wrap IntKind.i64 (IntKind.wrap IntKind.i64 (q3 * q6) * q6) * q7)) then true else decide (IntKind.wrap IntKind.i64 (el_i q2 q5 * q18) ≤ IntKind.wrap IntKind.i64 (IntKind.wrap IntKind.i64 (IntKind.wrap IntKind.i64 (IntKind.wrap IntKind.i64 (q3 * q6) * q6) * q7) - q18))) (.ret (.inr (0, (false, q3, false, q5)))) (.ret (.inl (q1, q3, false, IntKind.wrap IntKind.i64 (q5 + (1 : Int)))))) (.bad 29)) (.br (decide ((0 : Int) ≤ q5) && decide (q5 < (↑(List.length q2) : Int))) (.br (q4) (.br (bif decide (IntKind.wrap IntKind.i64 (IntKind.wrap IntKind.i64 (el_i q2 q5 + q21) * q18) > IntKind.wrap IntKind.i64 (IntKind.wrap IntKind.i64 (IntKind.wrap IntKind.i64 (q3 * q6) * q6) * q7)) then true else decide (IntKind.wrap IntKind.i64 (IntKind.wrap IntKind.i64 (el_i q2 q5 + q21) * q18) ≤ IntKind.wrap IntKind.i64 (IntKind.wrap IntKind.i64 (IntKind.wrap IntKind.i64 (IntKind.wrap IntKind.i64 (q3 * q6) * q6) * q7) - q18))) (.ret (.inr (0, (false, q3, q4, q5)))) (.ret (.inl (q1, q3, q4, IntKind.wrap IntKind.i64 (q5 + (1 : Int)))))) (.br (bif decide (IntKind.wrap IntKind.i64 (el_i q2 q5 * q18) > IntKind.wrap IntKind.i64 (IntKind.wrap IntKind.i64 (IntKind.wrap IntKind.i64 (q3 * q6) * q6) * q7)) then true else decide (IntKind.wrap IntKind.i64 (el_i q2 q5 * q18) ≤ IntKind.wrap IntKind.i64 (IntKind.wrap IntKind.i64 (IntKind.wrap IntKind.i64 (IntKind.wrap IntKind.i64 (q3 * q6) * q6) * q7) - q18))) (.ret (.inr (0, (false, q3, q4, q5)))) (.ret (.inl (q1, q3, q4, IntKind.wrap IntKind.i64 (q5 + (1 : Int))))))) (.bad 29))))) (.bad 29)) (.ret (.inr (1, (q1, q3, q4, q5))))
set_option maxRecDepth 100000 in
set_option maxHeartbeats 4000000 in
theorem lex_step_eq : ∀ (u : lex_U) (v : lex_V), (evalC Try.prog (evalB Try.prog flD_S64 (opens []) flC_L64 7).1 (evalB Try.prog flD_S64 (opens []) flC_L64 7).2 (opens []) (flC_L64 6) 100000 (0 :: [0, 1, 0, 1, 1, 1, 1, 1, 1, 1]) (loopOf (bodyOf Try.prog 6) [1, 1, 1, 1, 1, 1, 1, 0, 1, 0]) (lex_St u v) []).bind (finF [1, 2, 6, 10, 11, 12, 13, 14, 15, 16, 17, 18, 19, 20, 21, 22, 23, 24, 25, 26, 27, 28, 29, 30, 31, 32, 33, 34, 35, 36, 37, 38, 39, 40, 41, 42, 43, 44, 45, 46, 47, 48, 49, 50, 51, 52, 53, 54, 55, 56, 57, 58, 59, 60, 61, 62, 63, 64, 65, 66, 67, 68, 69, 70, 71, 72, 73, 74, 75, 76, 77, 78, 79, 80, 81, 82, 83, 84, 85, 86, 87, 88, 89, 90, 91, 92, 93, 94, 95, 96, 97, 98, 99, 100, 101] [] [0] [] 1023) = (lex_step u v).bind (outA (lex_St u) [.ret, .exit 0]) := by
  rintro ⟨q0, q2, q6, q7, q8, q9, q10, q11, q12, q13, q14, q15, q16, q17, q18, q19, q20, q21, q22, q23, q24, q25⟩ ⟨q1, q3, q4, q5⟩
  kernel_rfl
noncomputable def lex_rd (b : Bool) (o0 : Option AV) (o3 : Option AV) (o4 : Option AV) (o5 : Option AV) (o7 : Option AV) (o8 : Option AV) (o9 : Option AV) (own : Own) : Option (lex_U × lex_V) := zrT b <| zrO o0 fun za1 => zrA1 za1 fun zc2 => zrD (.prod (.int .i64) (.prod (.int .i64) (.prod (.int .i64) (.prod (.int .i64) (.prod (.int .i64) (.list (.prod (.int .i64) (.int .i64)))))))) zc2 fun q0 => zrO o3 fun za3 => zrA1 za3 fun zc4 => zrP 0 0 zc4 <| zrO o4 fun za5 => zrA1 za5 fun zc6 => zrB zc6 fun q1 => zrO o5 fun za7 => zrA1 za7 fun zc8 => zrD (.int .i64) zc8 fun q2 => zrO o7 fun za9 => zrA1 za9 fun zc10 => zrI .i64 zc10 fun q3 => zrO o8 fun za11 => zrA1 za11 fun zc12 => zrB zc12 fun q4 => zrO o9 fun za13 => zrA1 za13 fun zc14 => zrI .i64 zc14 fun q5 => zrL own fun zq15 zw16 => zrKey 0 zq15 fun zk17 => zrC zk17 fun zl18 => zrL zl18 fun zc19 zr20 => zrI .i64 zc19 fun q6 => zrL zr20 fun zc21 zr22 => zrI .i64 zc21 fun q7 => zrL zr22 fun zc23 zr24 => zrI .i64 zc23 fun q8 => zrL zr24 fun zc25 zr26 => zrI .i64 zc25 fun q9 => zrL zr26 fun zc27 zr28 => zrI .i64 zc27 fun q10 => zrL zr28 fun zc29 zr30 => zrI .i64 zc29 fun q11 => zrL zr30 fun zc31 zr32 => zrI .i64 zc31 fun q12 => zrL zr32 fun zc33 zr34 => zrB zc33 fun q13 => zrL zr34 fun zc35 zr36 => zrI .i64 zc35 fun q14 => zrL zr36 fun zc37 zr38 => zrI .i64 zc37 fun q15 => zrL zr38 fun zc39 zr40 => zrI .i64 zc39 fun q16 => zrL zr40 fun zc41 zr42 => zrI .i64 zc41 fun q17 => zrL zr42 fun zc43 zr44 => zrI .i64 zc43 fun q18 => zrL zr44 fun zc45 zr46 => zrI .i64 zc45 fun q19 => zrL zr46 fun zc47 zr48 => zrI .i64 zc47 fun q20 => zrL zr48 fun zc49 zr50 => zrI .i64 zc49 fun q21 => zrL zr50 fun zc51 zr52 => zrI .i64 zc51 fun q22 => zrL zr52 fun zc53 zr54 => zrI .i64 zc53 fun q23 => zrL zr54 fun zc55 zr56 => zrI .i64 zc55 fun q24 => zrL zr56 fun zc57 zr58 => zrI .i64 zc57 fun q25 => zrN zr58 <| zrN zw16 <| some ((q0, q2, q6, q7, q8, q9, q10, q11, q12, q13, q14, q15, q16, q17, q18, q19, q20, q21, q22, q23, q24, q25), (q1, q3, q4, q5))
noncomputable def lex_can (st : Stt) : Stt := canA [1, 2, 6, 10, 11, 12, 13, 14, 15, 16, 17, 18, 19, 20, 21, 22, 23, 24, 25, 26, 27, 28, 29, 30, 31, 32, 33, 34, 35, 36, 37, 38, 39, 40, 41, 42, 43, 44, 45, 46, 47, 48, 49, 50, 51, 52, 53, 54, 55, 56, 57, 58, 59, 60, 61, 62, 63, 64, 65, 66, 67, 68, 69, 70, 71, 72, 73, 74, 75, 76, 77, 78, 79, 80, 81, 82, 83, 84, 85, 86, 87, 88, 89, 90, 91, 92, 93, 94, 95, 96, 97, 98, 99, 100, 101] [] [0] [] 1023 st
noncomputable def lex_cok (st : Stt) : Bool := canAok [1, 2, 6, 10, 11, 12, 13, 14, 15, 16, 17, 18, 19, 20, 21, 22, 23, 24, 25, 26, 27, 28, 29, 30, 31, 32, 33, 34, 35, 36, 37, 38, 39, 40, 41, 42, 43, 44, 45, 46, 47, 48, 49, 50, 51, 52, 53, 54, 55, 56, 57, 58, 59, 60, 61, 62, 63, 64, 65, 66, 67, 68, 69, 70, 71, 72, 73, 74, 75, 76, 77, 78, 79, 80, 81, 82, 83, 84, 85, 86, 87, 88, 89, 90, 91, 92, 93, 94, 95, 96, 97, 98, 99, 100, 101] [] [0] [] 1023 st
noncomputable def lex_read (st : Stt) : Option (lex_U × lex_V) := lex_rd (lex_cok st && (staysA [] [0] st.own && juAll [1, 2, 6, 10, 11, 12, 13, 14, 15, 16, 17, 18, 19, 20, 21, 22, 23, 24, 25, 26, 27, 28, 29, 30, 31, 32, 33, 34, 35, 36, 37, 38, 39, 40, 41, 42, 43, 44, 45, 46, 47, 48, 49, 50, 51, 52, 53, 54, 55, 56, 57, 58, 59, 60, 61, 62, 63, 64, 65, 66, 67, 68, 69, 70, 71, 72, 73, 74, 75, 76, 77, 78, 79, 80, 81, 82, 83, 84, 85, 86, 87, 88, 89, 90, 91, 92, 93, 94, 95, 96, 97, 98, 99, 100, 101] (lex_can st).tm 102)) (lex_can st).tm[0]? (lex_can st).tm[3]? (lex_can st).tm[4]? (lex_can st).tm[5]? (lex_can st).tm[7]? (lex_can st).tm[8]? (lex_can st).tm[9]? (lex_can st).own
set_option maxRecDepth 100000 in
set_option maxHeartbeats 4000000 in
theorem lex_rd_ok {b : Bool} {tm : List AV} {own : Own} {u : lex_U} {v : lex_V} (hj : b = true → juAll [1, 2, 6, 10, 11, 12, 13, 14, 15, 16, 17, 18, 19, 20, 21, 22, 23, 24, 25, 26, 27, 28, 29, 30, 31, 32, 33, 34, 35, 36, 37, 38, 39, 40, 41, 42, 43, 44, 45, 46, 47, 48, 49, 50, 51, 52, 53, 54, 55, 56, 57, 58, 59, 60, 61, 62, 63, 64, 65, 66, 67, 68, 69, 70, 71, 72, 73, 74, 75, 76, 77, 78, 79, 80, 81, 82, 83, 84, 85, 86, 87, 88, 89, 90, 91, 92, 93, 94, 95, 96, 97, 98, 99, 100, 101] tm 102 = true) (h : lex_rd b tm[0]? tm[3]? tm[4]? tm[5]? tm[7]? tm[8]? tm[9]? own = some (u, v)) : b = true ∧ tm = (lex_St u v).tm ∧ own = (lex_St u v).own := by
  unfold lex_rd at h
  obtain ⟨rfl, h0⟩ := zrT_some h
  obtain ⟨za1, e0, h1⟩ := zrO_some h0
  obtain ⟨zc2, rfl, h2⟩ := zrA1_some h1
  obtain ⟨q0, rfl, h3⟩ := zrD_some h2
  obtain ⟨za3, e3, h4⟩ := zrO_some h3
  obtain ⟨zc4, rfl, h5⟩ := zrA1_some h4
  obtain ⟨rfl, h6⟩ := zrP_some h5
  obtain ⟨za5, e4, h7⟩ := zrO_some h6
  obtain ⟨zc6, rfl, h8⟩ := zrA1_some h7
  obtain ⟨q1, rfl, h9⟩ := zrB_some h8
  obtain ⟨za7, e5, h10⟩ := zrO_some h9
  obtain ⟨zc8, rfl, h11⟩ := zrA1_some h10
  obtain ⟨q2, rfl, h12⟩ := zrD_some h11
  obtain ⟨za9, e7, h13⟩ := zrO_some h12
  obtain ⟨zc10, rfl, h14⟩ := zrA1_some h13
  obtain ⟨q3, rfl, h15⟩ := zrI_some h14
  obtain ⟨za11, e8, h16⟩ := zrO_some h15
  obtain ⟨zc12, rfl, h17⟩ := zrA1_some h16
  obtain ⟨q4, rfl, h18⟩ := zrB_some h17
  obtain ⟨za13, e9, h19⟩ := zrO_some h18
  obtain ⟨zc14, rfl, h20⟩ := zrA1_some h19
  obtain ⟨q5, rfl, h21⟩ := zrI_some h20
  obtain ⟨zq15, zw16, rfl, h22⟩ := zrL_some h21
  obtain ⟨zk17, rfl, h23⟩ := zrKey_some h22
  obtain ⟨zl18, rfl, h24⟩ := zrC_some h23
  obtain ⟨zc19, zr20, rfl, h25⟩ := zrL_some h24
  obtain ⟨q6, rfl, h26⟩ := zrI_some h25
  obtain ⟨zc21, zr22, rfl, h27⟩ := zrL_some h26
  obtain ⟨q7, rfl, h28⟩ := zrI_some h27
  obtain ⟨zc23, zr24, rfl, h29⟩ := zrL_some h28
  obtain ⟨q8, rfl, h30⟩ := zrI_some h29
  obtain ⟨zc25, zr26, rfl, h31⟩ := zrL_some h30
  obtain ⟨q9, rfl, h32⟩ := zrI_some h31
  obtain ⟨zc27, zr28, rfl, h33⟩ := zrL_some h32
  obtain ⟨q10, rfl, h34⟩ := zrI_some h33
  obtain ⟨zc29, zr30, rfl, h35⟩ := zrL_some h34
  obtain ⟨q11, rfl, h36⟩ := zrI_some h35
  obtain ⟨zc31, zr32, rfl, h37⟩ := zrL_some h36
  obtain ⟨q12, rfl, h38⟩ := zrI_some h37
  obtain ⟨zc33, zr34, rfl, h39⟩ := zrL_some h38
  obtain ⟨q13, rfl, h40⟩ := zrB_some h39
  obtain ⟨zc35, zr36, rfl, h41⟩ := zrL_some h40
  obtain ⟨q14, rfl, h42⟩ := zrI_some h41
  obtain ⟨zc37, zr38, rfl, h43⟩ := zrL_some h42
  obtain ⟨q15, rfl, h44⟩ := zrI_some h43
  obtain ⟨zc39, zr40, rfl, h45⟩ := zrL_some h44
  obtain ⟨q16, rfl, h46⟩ := zrI_some h45
  obtain ⟨zc41, zr42, rfl, h47⟩ := zrL_some h46
  obtain ⟨q17, rfl, h48⟩ := zrI_some h47
  obtain ⟨zc43, zr44, rfl, h49⟩ := zrL_some h48
  obtain ⟨q18, rfl, h50⟩ := zrI_some h49
  obtain ⟨zc45, zr46, rfl, h51⟩ := zrL_some h50
  obtain ⟨q19, rfl, h52⟩ := zrI_some h51
  obtain ⟨zc47, zr48, rfl, h53⟩ := zrL_some h52
  obtain ⟨q20, rfl, h54⟩ := zrI_some h53
  obtain ⟨zc49, zr50, rfl, h55⟩ := zrL_some h54
  obtain ⟨q21, rfl, h56⟩ := zrI_some h55
  obtain ⟨zc51, zr52, rfl, h57⟩ := zrL_some h56
  obtain ⟨q22, rfl, h58⟩ := zrI_some h57
  obtain ⟨zc53, zr54, rfl, h59⟩ := zrL_some h58
  obtain ⟨q23, rfl, h60⟩ := zrI_some h59
  obtain ⟨zc55, zr56, rfl, h61⟩ := zrL_some h60
  obtain ⟨q24, rfl, h62⟩ := zrI_some h61
  obtain ⟨zc57, zr58, rfl, h63⟩ := zrL_some h62
  obtain ⟨q25, rfl, h64⟩ := zrI_some h63
  obtain ⟨rfl, h65⟩ := zrN_some h64
  obtain ⟨rfl, h66⟩ := zrN_some h65
  have h := Option.some.inj h66
  have hu := congrArg Prod.fst h
  have hv := congrArg Prod.snd h
  dsimp only at hu hv
  subst hu
  subst hv
  exact ⟨rfl, (tm_fill (hj rfl) (Lv := [(0, .one (.d false false (.prod (.int .i64) (.prod (.int .i64) (.prod (.int .i64) (.prod (.int .i64) (.prod (.int .i64) (.list (.prod (.int .i64) (.int .i64)))))))) q0)), (3, .one (.p 0 0)), (4, .one (.v false (.bool q1))), (5, .one (.d false false (.int .i64) q2)), (7, .one (.v false (.int .i64 q3))), (8, .one (.v false (.bool q4))), (9, .one (.v false (.int .i64 q5)))]) (by kernel_rfl) ⟨e0, e3, e4, e5, e7, e8, e9, trivial⟩).trans (by kernel_rfl), rfl⟩
theorem lex_read_ok (st : Stt) (u : lex_U) (v : lex_V) (h : lex_read st = some (u, v)) : lex_cok st = true ∧ staysA [] [0] st.own = true ∧ lex_can st = lex_St u v := by
  obtain ⟨h1, h2, h3⟩ := lex_rd_ok (fun hb => by rw [Bool.and_eq_true, Bool.and_eq_true] at hb; exact hb.2.2) h
  rw [Bool.and_eq_true, Bool.and_eq_true] at h1
  refine ⟨h1.1, h1.2.1, ?_⟩
  have e : lex_can st = ⟨(lex_can st).tm, (lex_can st).own, 1023⟩ := by kernel_rfl
  rw [e, h2, h3]
  rfl
noncomputable def lex_cond (u : lex_U) (v : lex_V) : Bool := runC (lex_step u) v
noncomputable def lex_g (u : lex_U) (v : lex_V) : Nat × lex_V := runG (lex_step u) v
theorem lex_hg : ∀ (u : lex_U) (v : lex_V), lex_cond u v = true → loopN (lex_step u) ((fun u v => runF (lex_step u) v) u v) v = some (lex_g u v) := by
  exact fun u v h => run_hg h
noncomputable def lex_m (st : Stt) : Option (Tr (Ex × Stt)) := sumM lex_read lex_cond lex_St lex_g [(0, .ret), (1, .exit 0)] st
noncomputable def flE_L61 : FuncId → Loops := addL 6 [0, 1, 0, 1, 1, 1, 1, 1, 1, 1] lex_m flC_L64
set_option maxRecDepth 100000 in
set_option maxHeartbeats 4000000 in
theorem flE_L61_ok : LoopsOK Try.prog flE_L61 :=
  loop_sumF (body := (bodyOf Try.prog 6)) (c := (loopOf (bodyOf Try.prog 6) [1, 1, 1, 1, 1, 1, 1, 0, 1, 0])) (kinds := [.ret, .exit 0]) (allow := [(0, .ret), (1, .exit 0)]) (St := lex_St) (step := lex_step) (W := [1, 2, 6, 10, 11, 12, 13, 14, 15, 16, 17, 18, 19, 20, 21, 22, 23, 24, 25, 26, 27, 28, 29, 30, 31, 32, 33, 34, 35, 36, 37, 38, 39, 40, 41, 42, 43, 44, 45, 46, 47, 48, 49, 50, 51, 52, 53, 54, 55, 56, 57, 58, 59, 60, 61, 62, 63, 64, 65, 66, 67, 68, 69, 70, 71, 72, 73, 74, 75, 76, 77, 78, 79, 80, 81, 82, 83, 84, 85, 86, 87, 88, 89, 90, 91, 92, 93, 94, 95, 96, 97, 98, 99, 100, 101]) (As := []) (ks := [0]) (dd := []) (nx := 1023) (n := 100000) (g := lex_g) (cond := lex_cond) (fuel := (fun u v => runF (lex_step u) v)) (read := lex_read) (by kernel_rfl) (flD_S64_ok) (flC_L64_ok) 7 ⟨Try.f6, by kernel_rfl, by kernel_rfl⟩ (by kernel_rfl) (by kernel_rfl) (by kernel_rfl) lex_step_eq lex_hg lex_read_ok
end Go.Proofs.Ytpobbjgiglcecaa
