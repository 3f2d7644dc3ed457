/-
  Layer 44: the document's loops.
-/
import Derived.Test.YtaidlflnkdamkaaProg
import Derived.Test.YtaidlflnkdamkaaFvX
import Derived.Test.YtaidlflnkdamkaaFvZ
import Derived.Test.YtaidlflnkdamkaaAut
import Derived.Test.YtaidlflnkdamkaaRd
import Derived.Test.YtaidlflnkdamkaaAbA
import Derived.Test.YtaidlflnkdamkaaAbB
import Derived.Test.YtaidlflnkdamkaaAbM
import Derived.Test.YtaidlflnkdamkaaAbN
import Derived.Test.YtaidlflnkdamkaaAbC
import Derived.Test.YtaidlflnkdamkaaAbD
import Derived.Test.YtaidlflnkdamkaaAbE
import Derived.Test.YtaidlflnkdamkaaAbP
import Derived.Test.YtaidlflnkdamkaaAbF
import Derived.Test.YtaidlflnkdamkaaAbG
import Derived.Test.YtaidlflnkdamkaaAbH
import Derived.Test.YtaidlflnkdamkaaAbI
namespace Go.Proofs.Ytaidlflnkdamkaa
open Go
abbrev gre0_U : Type := (Ty.list (.prod (.prod (.int .i64) (.prod (.int .i64) (.prod (.int .i64) (.int .i64)))) (.prod (.int .i64) (.prod (.int .i64) (.prod (.int .i64) (.int .i64)))))).den × (Ty.list (.int .i64)).den × Int
abbrev gre0_V : Type := Int × (Ty.list (.int .i64)).den
noncomputable def gre0_St (u : gre0_U) (v : gre0_V) : Stt := ⟨[.one (.d false false (.prod (.prod (.int .i64) (.prod (.int .i64) (.prod (.int .i64) (.int .i64)))) (.prod (.int .i64) (.prod (.int .i64) (.prod (.int .i64) (.int .i64))))) u.1), .one (.d false false (.int .i64) u.2.1), .one .junk, .one .junk, .one .junk, .one .junk, .one (.v false (Value.slice none (0 : Nat) (0 : Nat))), .one (.v false (.int .i64 u.2.2)), .one (.s false 980 0 (none)), .one (.v false (.int .i64 v.1)), .one .junk, .one .junk, .one .junk, .one .junk, .one .junk, .one .junk, .one .junk, .one .junk, .one .junk, .one .junk, .one .junk, .one .junk, .one .junk, .one .junk, .one .junk, .one .junk, .one .junk, .one .junk, .one .junk, .one .junk, .one .junk, .one .junk, .one .junk, .one .junk, .one .junk, .one .junk, .one .junk, .one .junk, .one .junk, .one .junk, .one .junk, .one .junk, .one .junk, .one .junk, .one .junk, .one .junk, .one .junk, .one .junk, .one .junk, .one .junk, .one .junk, .one .junk, .one .junk, .one .junk, .one .junk, .one .junk, .one .junk, .one .junk, .one .junk, .one .junk, .one .junk, .one .junk, .one .junk, .one .junk, .one .junk, .one .junk, .one .junk, .one .junk, .one .junk, .one .junk, .one .junk, .one .junk, .one .junk, .one .junk, .one .junk, .one .junk, .one .junk, .one .junk, .one .junk, .one .junk, .one .junk, .one .junk, .one .junk, .one .junk, .one .junk], [(5, .dead), (980, .row true false false 3 (.int .i64) v.2)], 1008⟩
noncomputable def gre0_step (u : gre0_U) (v : gre0_V) : Tr (gre0_V ⊕ (Nat × gre0_V)) :=
  match u, v with
  | (q0, q1, q2), (q3, q4) => .br (decide (q3 < q2)) (.br (decide ((0 : Int) ≤ q3) && decide (q3 < (↑(List.length q1) : Int))) (.br (decide ((0 : Int) ≤ IntKind.wrap IntKind.i64 (q3 - (1 : Int))) && decide (IntKind.wrap IntKind.i64 (q3 - (1 : Int)) < (↑(List.length q0) : Int))) (.br (decide ((0 : Int) ≤ q3) && decide (q3 < (↑(List.length q0) : Int))) (.br (decide ((List.length q4 + (1 : Nat)) * (8 : Nat) ≤ maxNew) && decide (List.length q4 + (1 : Nat) ≤ maxLen)) (.ret (.inl (IntKind.wrap IntKind.i64 (q3 + (1 : Int)), q4 ++ [if Prod.fst (Prod.snd (Prod.snd (Prod.snd (el_iiiiiiii q0 q3)))) < if Prod.fst (Prod.snd (Prod.snd (Prod.snd (el_iiiiiiii q0 (IntKind.wrap IntKind.i64 (q3 - (1 : Int))))))) < el_i q1 q3 then Prod.fst (Prod.snd (Prod.snd (Prod.snd (el_iiiiiiii q0 (IntKind.wrap IntKind.i64 (q3 - (1 : Int))))))) else el_i q1 q3 then Prod.fst (Prod.snd (Prod.snd (Prod.snd (el_iiiiiiii q0 q3)))) else if Prod.fst (Prod.snd (Prod.snd (Prod.snd (el_iiiiiiii q0 (IntKind.wrap IntKind.i64 (q3 - (1 : Int))))))) < el_i q1 q3 then Prod.fst (Prod.snd (Prod.snd (Prod.snd (el_iiiiiiii q0 (IntKind.wrap IntKind.i64 (q3 - (1 : Int))))))) else el_i q1 q3]))) (.bad 71)) (.bad 29)) (.bad 29)) (.bad 29)) (.ret (.inr (0, (q3, q4))))
set_option maxRecDepth 100000 in
set_option maxHeartbeats 4000000 in
theorem gre0_step_eq : ∀ (u : gre0_U) (v : gre0_V), (evalC Try.prog (evalB Try.prog abF_S62 (opens []) abG_L63 7).1 (evalB Try.prog abF_S62 (opens []) abG_L63 7).2 (opens []) (abG_L63 49) 100000 (0 :: [0, 1, 0, 1, 1, 1]) (loopOf (bodyOf Try.prog 49) [1, 1, 1, 0, 1, 0]) (gre0_St u v) []).bind (finF [2, 3, 4, 5, 10, 11, 12, 13, 14, 15, 16, 17, 18, 19, 20, 21, 22, 23, 24, 25, 26, 27, 28, 29, 30, 31, 32, 33, 34, 35, 36, 37, 38, 39, 40, 41, 42, 43, 44, 45, 46, 47, 48, 49, 50, 51, 52, 53, 54, 55, 56, 57, 58, 59, 60, 61, 62, 63, 64, 65, 66, 67, 68, 69, 70, 71, 72, 73, 74, 75, 76, 77, 78, 79, 80, 81, 82, 83, 84] [⟨980, some 8, 0, 0, 3, (.int .i64)⟩] [5, 980] [5, 1029] 1008) = (gre0_step u v).bind (outA (gre0_St u) [.exit 0]) := by
  rintro ⟨q0, q1, q2⟩ ⟨q3, q4⟩
  kernel_rfl
noncomputable def gre0_rd (b : Bool) (o0 : Option AV) (o1 : Option AV) (o6 : Option AV) (o7 : Option AV) (o8 : Option AV) (o9 : Option AV) (own : Own) : Option (gre0_U × gre0_V) := zrT b <| zrO o0 fun za1 => zrA1 za1 fun zc2 => zrD (.prod (.prod (.int .i64) (.prod (.int .i64) (.prod (.int .i64) (.int .i64)))) (.prod (.int .i64) (.prod (.int .i64) (.prod (.int .i64) (.int .i64))))) zc2 fun q0 => zrO o1 fun za3 => zrA1 za3 fun zc4 => zrD (.int .i64) zc4 fun q1 => zrO o6 fun za5 => zrA1 za5 fun zc6 => zrNil zc6 <| zrO o7 fun za7 => zrA1 za7 fun zc8 => zrI .i64 zc8 fun q2 => zrO o8 fun za9 => zrA1 za9 fun zc10 => zrSl 980 0 (none) zc10 <| zrO o9 fun za11 => zrA1 za11 fun zc12 => zrI .i64 zc12 fun q3 => zrL own fun zq13 zw14 => zrKey 5 zq13 fun zk15 => zrX zk15 <| zrL zw14 fun zq16 zw17 => zrKey 980 zq16 fun zk18 => zrR true 3 (.int .i64) zk18 fun q4 => zrN zw17 <| some ((q0, q1, q2), (q3, q4))
noncomputable def gre0_can (st : Stt) : Stt := canA [2, 3, 4, 5, 10, 11, 12, 13, 14, 15, 16, 17, 18, 19, 20, 21, 22, 23, 24, 25, 26, 27, 28, 29, 30, 31, 32, 33, 34, 35, 36, 37, 38, 39, 40, 41, 42, 43, 44, 45, 46, 47, 48, 49, 50, 51, 52, 53, 54, 55, 56, 57, 58, 59, 60, 61, 62, 63, 64, 65, 66, 67, 68, 69, 70, 71, 72, 73, 74, 75, 76, 77, 78, 79, 80, 81, 82, 83, 84] [⟨980, some 8, 0, 0, 3, (.int .i64)⟩] [5, 980] [5, 1029] 1008 st
noncomputable def gre0_cok (st : Stt) : Bool := canAok [2, 3, 4, 5, 10, 11, 12, 13, 14, 15, 16, 17, 18, 19, 20, 21, 22, 23, 24, 25, 26, 27, 28, 29, 30, 31, 32, 33, 34, 35, 36, 37, 38, 39, 40, 41, 42, 43, 44, 45, 46, 47, 48, 49, 50, 51, 52, 53, 54, 55, 56, 57, 58, 59, 60, 61, 62, 63, 64, 65, 66, 67, 68, 69, 70, 71, 72, 73, 74, 75, 76, 77, 78, 79, 80, 81, 82, 83, 84] [⟨980, some 8, 0, 0, 3, (.int .i64)⟩] [5, 980] [5, 1029] 1008 st
noncomputable def gre0_read (st : Stt) : Option (gre0_U × gre0_V) := gre0_rd (gre0_cok st && (staysA [⟨980, some 8, 0, 0, 3, (.int .i64)⟩] [5, 980] st.own && juAll [2, 3, 4, 5, 10, 11, 12, 13, 14, 15, 16, 17, 18, 19, 20, 21, 22, 23, 24, 25, 26, 27, 28, 29, 30, 31, 32, 33, 34, 35, 36, 37, 38, 39, 40, 41, 42, 43, 44, 45, 46, 47, 48, 49, 50, 51, 52, 53, 54, 55, 56, 57, 58, 59, 60, 61, 62, 63, 64, 65, 66, 67, 68, 69, 70, 71, 72, 73, 74, 75, 76, 77, 78, 79, 80, 81, 82, 83, 84] (gre0_can st).tm 85)) (gre0_can st).tm[0]? (gre0_can st).tm[1]? (gre0_can st).tm[6]? (gre0_can st).tm[7]? (gre0_can st).tm[8]? (gre0_can st).tm[9]? (gre0_can st).own
set_option maxRecDepth 100000 in
set_option maxHeartbeats 4000000 in
theorem gre0_rd_ok {b : Bool} {tm : List AV} {own : Own} {u : gre0_U} {v : gre0_V} (hj : b = true → juAll [2, 3, 4, 5, 10, 11, 12, 13, 14, 15, 16, 17, 18, 19, 20, 21, 22, 23, 24, 25, 26, 27, 28, 29, 30, 31, 32, 33, 34, 35, 36, 37, 38, 39, 40, 41, 42, 43, 44, 45, 46, 47, 48, 49, 50, 51, 52, 53, 54, 55, 56, 57, 58, 59, 60, 61, 62, 63, 64, 65, 66, 67, 68, 69, 70, 71, 72, 73, 74, 75, 76, 77, 78, 79, 80, 81, 82, 83, 84] tm 85 = true) (h : gre0_rd b tm[0]? tm[1]? tm[6]? tm[7]? tm[8]? tm[9]? own = some (u, v)) : b = true ∧ tm = (gre0_St u v).tm ∧ own = (gre0_St u v).own := by
  unfold gre0_rd at h
  obtain ⟨rfl, h0⟩ := zrT_some h
  obtain ⟨za1, e0, h1⟩ := zrO_some h0
  obtain ⟨zc2, rfl, h2⟩ := zrA1_some h1
  obtain ⟨q0, rfl, h3⟩ := zrD_some h2
  obtain ⟨za3, e1, h4⟩ := zrO_some h3
  obtain ⟨zc4, rfl, h5⟩ := zrA1_some h4
  obtain ⟨q1, rfl, h6⟩ := zrD_some h5
  obtain ⟨za5, e6, h7⟩ := zrO_some h6
  obtain ⟨zc6, rfl, h8⟩ := zrA1_some h7
  obtain ⟨rfl, h9⟩ := zrNil_some h8
  obtain ⟨za7, e7, h10⟩ := zrO_some h9
  obtain ⟨zc8, rfl, h11⟩ := zrA1_some h10
  obtain ⟨q2, rfl, h12⟩ := zrI_some h11
  obtain ⟨za9, e8, h13⟩ := zrO_some h12
  obtain ⟨zc10, rfl, h14⟩ := zrA1_some h13
  obtain ⟨rfl, h15⟩ := zrSl_some h14
  obtain ⟨za11, e9, h16⟩ := zrO_some h15
  obtain ⟨zc12, rfl, h17⟩ := zrA1_some h16
  obtain ⟨q3, rfl, h18⟩ := zrI_some h17
  obtain ⟨zq13, zw14, rfl, h19⟩ := zrL_some h18
  obtain ⟨zk15, rfl, h20⟩ := zrKey_some h19
  obtain ⟨rfl, h21⟩ := zrX_some h20
  obtain ⟨zq16, zw17, rfl, h22⟩ := zrL_some h21
  obtain ⟨zk18, rfl, h23⟩ := zrKey_some h22
  obtain ⟨q4, rfl, h24⟩ := zrR_some h23
  obtain ⟨rfl, h25⟩ := zrN_some h24
  have h := Option.some.inj h25
  have hu := congrArg Prod.fst h
  have hv := congrArg Prod.snd h
  dsimp only at hu hv
  subst hu
  subst hv
  exact ⟨rfl, (tm_fill (hj rfl) (Lv := [(0, .one (.d false false (.prod (.prod (.int .i64) (.prod (.int .i64) (.prod (.int .i64) (.int .i64)))) (.prod (.int .i64) (.prod (.int .i64) (.prod (.int .i64) (.int .i64))))) q0)), (1, .one (.d false false (.int .i64) q1)), (6, .one (.v false (Value.slice none (0 : Nat) (0 : Nat)))), (7, .one (.v false (.int .i64 q2))), (8, .one (.s false 980 0 (none))), (9, .one (.v false (.int .i64 q3)))]) (by kernel_rfl) ⟨e0, e1, e6, e7, e8, e9, trivial⟩).trans (by kernel_rfl), rfl⟩
theorem gre0_read_ok (st : Stt) (u : gre0_U) (v : gre0_V) (h : gre0_read st = some (u, v)) : gre0_cok st = true ∧ staysA [⟨980, some 8, 0, 0, 3, (.int .i64)⟩] [5, 980] st.own = true ∧ gre0_can st = gre0_St u v := by
  obtain ⟨h1, h2, h3⟩ := gre0_rd_ok (fun hb => by rw [Bool.and_eq_true, Bool.and_eq_true] at hb; exact hb.2.2) h
  rw [Bool.and_eq_true, Bool.and_eq_true] at h1
  refine ⟨h1.1, h1.2.1, ?_⟩
  have e : gre0_can st = ⟨(gre0_can st).tm, (gre0_can st).own, 1008⟩ := by kernel_rfl
  rw [e, h2, h3]
  rfl
noncomputable def gre0_cond (u : gre0_U) (v : gre0_V) : Bool := runC (gre0_step u) v
noncomputable def gre0_g (u : gre0_U) (v : gre0_V) : Nat × gre0_V := runG (gre0_step u) v
theorem gre0_hg : ∀ (u : gre0_U) (v : gre0_V), gre0_cond u v = true → loopN (gre0_step u) ((fun u v => runF (gre0_step u) v) u v) v = some (gre0_g u v) := by
  exact fun u v h => run_hg h
noncomputable def gre0_m (st : Stt) : Option (Tr (Ex × Stt)) := sumM gre0_read gre0_cond gre0_St gre0_g [(0, .exit 0)] st
noncomputable def abK_L61 : FuncId → Loops := addL 49 [0, 1, 0, 1, 1, 1] gre0_m abG_L63
set_option maxRecDepth 100000 in
set_option maxHeartbeats 4000000 in
theorem abK_L61_ok : LoopsOK Try.prog abK_L61 :=
  loop_sumF (body := (bodyOf Try.prog 49)) (c := (loopOf (bodyOf Try.prog 49) [1, 1, 1, 0, 1, 0])) (kinds := [.exit 0]) (allow := [(0, .exit 0)]) (St := gre0_St) (step := gre0_step) (W := [2, 3, 4, 5, 10, 11, 12, 13, 14, 15, 16, 17, 18, 19, 20, 21, 22, 23, 24, 25, 26, 27, 28, 29, 30, 31, 32, 33, 34, 35, 36, 37, 38, 39, 40, 41, 42, 43, 44, 45, 46, 47, 48, 49, 50, 51, 52, 53, 54, 55, 56, 57, 58, 59, 60, 61, 62, 63, 64, 65, 66, 67, 68, 69, 70, 71, 72, 73, 74, 75, 76, 77, 78, 79, 80, 81, 82, 83, 84]) (As := [⟨980, some 8, 0, 0, 3, (.int .i64)⟩]) (ks := [5, 980]) (dd := [5, 1029]) (nx := 1008) (n := 100000) (g := gre0_g) (cond := gre0_cond) (fuel := (fun u v => runF (gre0_step u) v)) (read := gre0_read) (by kernel_rfl) (abF_S62_ok) (abG_L63_ok) 7 ⟨Try.f49, by kernel_rfl, by kernel_rfl⟩ (by kernel_rfl) (by kernel_rfl) (by kernel_rfl) gre0_step_eq gre0_hg gre0_read_ok
abbrev gre2_U : Type := (Ty.list (.prod (.prod (.int .i64) (.prod (.int .i64) (.prod (.int .i64) (.int .i64)))) (.prod (.int .i64) (.prod (.int .i64) (.prod (.int .i64) (.int .i64)))))).den × Int
abbrev gre2_V : Type := Bool × Int × (Ty.list (.int .i64)).den
noncomputable def gre2_St (u : gre2_U) (v : gre2_V) : Stt := ⟨[.one (.d false false (.prod (.prod (.int .i64) (.prod (.int .i64) (.prod (.int .i64) (.int .i64)))) (.prod (.int .i64) (.prod (.int .i64) (.prod (.int .i64) (.int .i64))))) u.1), .one .junk, .one .junk, .one .junk, .one .junk, .one .junk, .one (.v false (Value.slice none (0 : Nat) (0 : Nat))), .one (.v false (.int .i64 u.2)), .one (.s false 1010 0 (none)), .one .junk, .one (.v false (.bool v.1)), .one (.v false (.int .i64 v.2.1)), .one .junk, .one .junk, .one .junk, .one .junk, .one .junk, .one .junk, .one .junk, .one .junk, .one .junk, .one .junk, .one .junk, .one .junk, .one .junk, .one .junk, .one .junk, .one .junk, .one .junk, .one .junk, .one .junk, .one .junk, .one .junk, .one .junk, .one .junk, .one .junk, .one .junk, .one .junk, .one .junk, .one .junk, .one .junk, .one .junk, .one .junk, .one .junk, .one .junk, .one .junk, .one .junk, .one .junk, .one .junk, .one .junk, .one .junk, .one .junk, .one .junk, .one .junk, .one .junk, .one .junk, .one .junk, .one .junk, .one .junk, .one .junk, .one .junk, .one .junk, .one .junk, .one .junk, .one .junk, .one .junk, .one .junk, .one .junk, .one .junk, .one .junk, .one .junk, .one .junk, .one .junk, .one .junk, .one .junk, .one .junk, .one .junk, .one .junk, .one .junk, .one .junk, .one .junk, .one .junk, .one .junk, .one .junk, .one .junk], [(1010, .row true false false 3 (.int .i64) v.2.2), (1009, .dead), (5, .dead), (980, .dead)], 2016⟩
noncomputable def gre2_step (u : gre2_U) (v : gre2_V) : Tr (gre2_V ⊕ (Nat × gre2_V)) :=
  match u, v with
  | (q0, q1), (q2, q3, q4) => .br (decide (q3 < q1)) (.br (decide ((0 : Int) ≤ IntKind.wrap IntKind.i64 (q3 - (1 : Int))) && decide (IntKind.wrap IntKind.i64 (q3 - (1 : Int)) < (↑(List.length q4) : Int))) (.br (decide (Int.toNat (IntKind.wrap IntKind.i64 (q3 - (1 : Int))) < List.length q4)) (.br (decide ((0 : Int) ≤ IntKind.wrap IntKind.i64 (q3 - (1 : Int))) && decide (IntKind.wrap IntKind.i64 (q3 - (1 : Int)) < (↑(List.length q0) : Int))) (.br (decide ((0 : Int) ≤ IntKind.wrap IntKind.i64 (q3 + (1 : Int))) && decide (IntKind.wrap IntKind.i64 (q3 + (1 : Int)) < (↑(List.length q4) : Int))) (.br (decide (Int.toNat (IntKind.wrap IntKind.i64 (q3 + (1 : Int))) < List.length q4)) (.br (decide ((0 : Int) ≤ q3) && decide (q3 < (↑(List.length q0) : Int))) (.br (decide ((0 : Int) ≤ q3) && decide (q3 < (↑(List.length q4) : Int))) (.br (decide (Int.toNat q3 < List.length q4)) (.br (decide (el_i q4 q3 > if IntKind.wrap IntKind.i64 (el_i q4 (IntKind.wrap IntKind.i64 (q3 + (1 : Int))) + reach (Prod.fst (Prod.fst (el_iiiiiiii q0 q3))) (Prod.fst (Prod.snd (Prod.fst (el_iiiiiiii q0 q3)))) (Prod.fst (Prod.snd (Prod.snd (Prod.fst (el_iiiiiiii q0 q3))))) (Prod.snd (Prod.snd (Prod.snd (Prod.fst (el_iiiiiiii q0 q3))))) (Prod.fst (Prod.snd (el_iiiiiiii q0 q3)))) < IntKind.wrap IntKind.i64 (el_i q4 (IntKind.wrap IntKind.i64 (q3 - (1 : Int))) + reach (Prod.fst (Prod.fst (el_iiiiiiii q0 (IntKind.wrap IntKind.i64 (q3 - (1 : Int)))))) (Prod.fst (Prod.snd (Prod.fst (el_iiiiiiii q0 (IntKind.wrap IntKind.i64 (q3 - (1 : Int))))))) (Prod.fst (Prod.snd (Prod.snd (Prod.fst (el_iiiiiiii q0 (IntKind.wrap IntKind.i64 (q3 - (1 : Int)))))))) (Prod.snd (Prod.snd (Prod.snd (Prod.fst (el_iiiiiiii q0 (IntKind.wrap IntKind.i64 (q3 - (1 : Int)))))))) (Prod.fst (Prod.snd (el_iiiiiiii q0 (IntKind.wrap IntKind.i64 (q3 - (1 : Int))))))) then IntKind.wrap IntKind.i64 (el_i q4 (IntKind.wrap IntKind.i64 (q3 + (1 : Int))) + reach (Prod.fst (Prod.fst (el_iiiiiiii q0 q3))) (Prod.fst (Prod.snd (Prod.fst (el_iiiiiiii q0 q3)))) (Prod.fst (Prod.snd (Prod.snd (Prod.fst (el_iiiiiiii q0 q3))))) (Prod.snd (Prod.snd (Prod.snd (Prod.fst (el_iiiiiiii q0 q3))))) (Prod.fst (Prod.snd (el_iiiiiiii q0 q3)))) else IntKind.wrap IntKind.i64 (el_i q4 (IntKind.wrap IntKind.i64 (q3 - (1 : Int))) + reach (Prod.fst (Prod.fst (el_iiiiiiii q0 (IntKind.wrap IntKind.i64 (q3 - (1 : Int)))))) (Prod.fst (Prod.snd (Prod.fst (el_iiiiiiii q0 (IntKind.wrap IntKind.i64 (q3 - (1 : Int))))))) (Prod.fst (Prod.snd (Prod.snd (Prod.fst (el_iiiiiiii q0 (IntKind.wrap IntKind.i64 (q3 - (1 : Int)))))))) (Prod.snd (Prod.snd (Prod.snd (Prod.fst (el_iiiiiiii q0 (IntKind.wrap IntKind.i64 (q3 - (1 : Int)))))))) (Prod.fst (Prod.snd (el_iiiiiiii q0 (IntKind.wrap IntKind.i64 (q3 - (1 : Int))))))))) (.br (decide ((0 : Int) ≤ q3) && decide (q3 < (↑(List.length q4) : Int))) (.br (decide (Int.toNat q3 < List.length q4)) (.ret (.inl (true, IntKind.wrap IntKind.i64 (q3 + (1 : Int)), List.set q4 (Int.toNat q3) (if IntKind.wrap IntKind.i64 (el_i q4 (IntKind.wrap IntKind.i64 (q3 + (1 : Int))) + reach (Prod.fst (Prod.fst (el_iiiiiiii q0 q3))) (Prod.fst (Prod.snd (Prod.fst (el_iiiiiiii q0 q3)))) (Prod.fst (Prod.snd (Prod.snd (Prod.fst (el_iiiiiiii q0 q3))))) (Prod.snd (Prod.snd (Prod.snd (Prod.fst (el_iiiiiiii q0 q3))))) (Prod.fst (Prod.snd (el_iiiiiiii q0 q3)))) < IntKind.wrap IntKind.i64 (el_i q4 (IntKind.wrap IntKind.i64 (q3 - (1 : Int))) + reach (Prod.fst (Prod.fst (el_iiiiiiii q0 (IntKind.wrap IntKind.i64 (q3 - (1 : Int)))))) (Prod.fst (Prod.snd (Prod.fst (el_iiiiiiii q0 (IntKind.wrap IntKind.i64 (q3 - (1 : Int))))))) (Prod.fst (Prod.snd (Prod.snd (Prod.fst (el_iiiiiiii q0 (IntKind.wrap IntKind.i64 (q3 - (1 : Int)))))))) (Prod.snd (Prod.snd (Prod.snd (Prod.fst (el_iiiiiiii q0 (IntKind.wrap IntKind.i64 (q3 - (1 : Int)))))))) (Prod.fst (Prod.snd (el_iiiiiiii q0 (IntKind.wrap IntKind.i64 (q3 - (1 : Int))))))) then IntKind.wrap IntKind.i64 (el_i q4 (IntKind.wrap IntKind.i64 (q3 + (1 : Int))) + reach (Prod.fst (Prod.fst (el_iiiiiiii q0 q3))) (Prod.fst (Prod.snd (Prod.fst (el_iiiiiiii q0 q3)))) (Prod.fst (Prod.snd (Prod.snd (Prod.fst (el_iiiiiiii q0 q3))))) (Prod.snd (Prod.snd (Prod.snd (Prod.fst (el_iiiiiiii q0 q3))))) (Prod.fst (Prod.snd (el_iiiiiiii q0 q3)))) else IntKind.wrap IntKind.i64 (el_i q4 (IntKind.wrap IntKind.i64 (q3 - (1 : Int))) + reach (Prod.fst (Prod.fst (el_iiiiiiii q0 (IntKind.wrap IntKind.i64 (q3 - (1 : Int)))))) (Prod.fst (Prod.snd (Prod.fst (el_iiiiiiii q0 (IntKind.wrap IntKind.i64 (q3 - (1 : Int))))))) (Prod.fst (Prod.snd (Prod.snd (Prod.fst (el_iiiiiiii q0 (IntKind.wrap IntKind.i64 (q3 - (1 : Int)))))))) (Prod.snd (Prod.snd (Prod.snd (Prod.fst (el_iiiiiiii q0 (IntKind.wrap IntKind.i64 (q3 - (1 : Int)))))))) (Prod.fst (Prod.snd (el_iiiiiiii q0 (IntKind.wrap IntKind.i64 (q3 - (1 : Int))))))))))) (.bad 19)) (.bad 31)) (.ret (.inl (q2, IntKind.wrap IntKind.i64 (q3 + (1 : Int)), q4)))) (.bad 12)) (.bad 31)) (.bad 29)) (.bad 12)) (.bad 31)) (.bad 29)) (.bad 12)) (.bad 31)) (.ret (.inr (0, (q2, q3, q4))))
set_option maxRecDepth 100000 in
set_option maxHeartbeats 4000000 in
theorem gre2_step_eq : ∀ (u : gre2_U) (v : gre2_V), (evalC Try.prog (evalB Try.prog abF_S62 (opens []) abK_L61 7).1 (evalB Try.prog abF_S62 (opens []) abK_L61 7).2 (opens []) (abK_L61 49) 100000 (0 :: [0, 1, 1, 0, 1, 0, 0, 1, 0, 1, 1, 1, 1, 1]) (loopOf (bodyOf Try.prog 49) [1, 1, 1, 1, 1, 0, 1, 0, 0, 1, 0, 1, 1, 0]) (gre2_St u v) []).bind (finF [1, 2, 3, 4, 5, 9, 12, 13, 14, 15, 16, 17, 18, 19, 20, 21, 22, 23, 24, 25, 26, 27, 28, 29, 30, 31, 32, 33, 34, 35, 36, 37, 38, 39, 40, 41, 42, 43, 44, 45, 46, 47, 48, 49, 50, 51, 52, 53, 54, 55, 56, 57, 58, 59, 60, 61, 62, 63, 64, 65, 66, 67, 68, 69, 70, 71, 72, 73, 74, 75, 76, 77, 78, 79, 80, 81, 82, 83, 84] [] [1010, 1009, 5, 980] [1009, 5, 980] 2016) = (gre2_step u v).bind (outA (gre2_St u) [.exit 4]) := by
  rintro ⟨q0, q1⟩ ⟨q2, q3, q4⟩
  kernel_rfl
noncomputable def gre2_rd (b : Bool) (o0 : Option AV) (o6 : Option AV) (o7 : Option AV) (o8 : Option AV) (o10 : Option AV) (o11 : Option AV) (own : Own) : Option (gre2_U × gre2_V) := zrT b <| zrO o0 fun za1 => zrA1 za1 fun zc2 => zrD (.prod (.prod (.int .i64) (.prod (.int .i64) (.prod (.int .i64) (.int .i64)))) (.prod (.int .i64) (.prod (.int .i64) (.prod (.int .i64) (.int .i64))))) zc2 fun q0 => zrO o6 fun za3 => zrA1 za3 fun zc4 => zrNil zc4 <| zrO o7 fun za5 => zrA1 za5 fun zc6 => zrI .i64 zc6 fun q1 => zrO o8 fun za7 => zrA1 za7 fun zc8 => zrSl 1010 0 (none) zc8 <| zrO o10 fun za9 => zrA1 za9 fun zc10 => zrB zc10 fun q2 => zrO o11 fun za11 => zrA1 za11 fun zc12 => zrI .i64 zc12 fun q3 => zrL own fun zq13 zw14 => zrKey 1010 zq13 fun zk15 => zrR true 3 (.int .i64) zk15 fun q4 => zrL zw14 fun zq16 zw17 => zrKey 1009 zq16 fun zk18 => zrX zk18 <| zrL zw17 fun zq19 zw20 => zrKey 5 zq19 fun zk21 => zrX zk21 <| zrL zw20 fun zq22 zw23 => zrKey 980 zq22 fun zk24 => zrX zk24 <| zrN zw23 <| some ((q0, q1), (q2, q3, q4))
noncomputable def gre2_can (st : Stt) : Stt := canA [1, 2, 3, 4, 5, 9, 12, 13, 14, 15, 16, 17, 18, 19, 20, 21, 22, 23, 24, 25, 26, 27, 28, 29, 30, 31, 32, 33, 34, 35, 36, 37, 38, 39, 40, 41, 42, 43, 44, 45, 46, 47, 48, 49, 50, 51, 52, 53, 54, 55, 56, 57, 58, 59, 60, 61, 62, 63, 64, 65, 66, 67, 68, 69, 70, 71, 72, 73, 74, 75, 76, 77, 78, 79, 80, 81, 82, 83, 84] [] [1010, 1009, 5, 980] [1009, 5, 980] 2016 st
noncomputable def gre2_cok (st : Stt) : Bool := canAok [1, 2, 3, 4, 5, 9, 12, 13, 14, 15, 16, 17, 18, 19, 20, 21, 22, 23, 24, 25, 26, 27, 28, 29, 30, 31, 32, 33, 34, 35, 36, 37, 38, 39, 40, 41, 42, 43, 44, 45, 46, 47, 48, 49, 50, 51, 52, 53, 54, 55, 56, 57, 58, 59, 60, 61, 62, 63, 64, 65, 66, 67, 68, 69, 70, 71, 72, 73, 74, 75, 76, 77, 78, 79, 80, 81, 82, 83, 84] [] [1010, 1009, 5, 980] [1009, 5, 980] 2016 st
noncomputable def gre2_read (st : Stt) : Option (gre2_U × gre2_V) := gre2_rd (gre2_cok st && (staysA [] [1010, 1009, 5, 980] st.own && juAll [1, 2, 3, 4, 5, 9, 12, 13, 14, 15, 16, 17, 18, 19, 20, 21, 22, 23, 24, 25, 26, 27, 28, 29, 30, 31, 32, 33, 34, 35, 36, 37, 38, 39, 40, 41, 42, 43, 44, 45, 46, 47, 48, 49, 50, 51, 52, 53, 54, 55, 56, 57, 58, 59, 60, 61, 62, 63, 64, 65, 66, 67, 68, 69, 70, 71, 72, 73, 74, 75, 76, 77, 78, 79, 80, 81, 82, 83, 84] (gre2_can st).tm 85)) (gre2_can st).tm[0]? (gre2_can st).tm[6]? (gre2_can st).tm[7]? (gre2_can st).tm[8]? (gre2_can st).tm[10]? (gre2_can st).tm[11]? (gre2_can st).own
set_option maxRecDepth 100000 in
set_option maxHeartbeats 4000000 in
theorem gre2_rd_ok {b : Bool} {tm : List AV} {own : Own} {u : gre2_U} {v : gre2_V} (hj : b = true → juAll [1, 2, 3, 4, 5, 9, 12, 13, 14, 15, 16, 17, 18, 19, 20, 21, 22, 23, 24, 25, 26, 27, 28, 29, 30, 31, 32, 33, 34, 35, 36, 37, 38, 39, 40, 41, 42, 43, 44, 45, 46, 47, 48, 49, 50, 51, 52, 53, 54, 55, 56, 57, 58, 59, 60, 61, 62, 63, 64, 65, 66, 67, 68, 69, 70, 71, 72, 73, 74, 75, 76, 77, 78, 79, 80, 81, 82, 83, 84] tm 85 = true) (h : gre2_rd b tm[0]? tm[6]? tm[7]? tm[8]? tm[10]? tm[11]? own = some (u, v)) : b = true ∧ tm = (gre2_St u v).tm ∧ own = (gre2_St u v).own := by
  unfold gre2_rd at h
  obtain ⟨rfl, h0⟩ := zrT_some h
  obtain ⟨za1, e0, h1⟩ := zrO_some h0
  obtain ⟨zc2, rfl, h2⟩ := zrA1_some h1
  obtain ⟨q0, rfl, h3⟩ := zrD_some h2
  obtain ⟨za3, e6, h4⟩ := zrO_some h3
  obtain ⟨zc4, rfl, h5⟩ := zrA1_some h4
  obtain ⟨rfl, h6⟩ := zrNil_some h5
  obtain ⟨za5, e7, h7⟩ := zrO_some h6
  obtain ⟨zc6, rfl, h8⟩ := zrA1_some h7
  obtain ⟨q1, rfl, h9⟩ := zrI_some h8
  obtain ⟨za7, e8, h10⟩ := zrO_some h9
  obtain ⟨zc8, rfl, h11⟩ := zrA1_some h10
  obtain ⟨rfl, h12⟩ := zrSl_some h11
  obtain ⟨za9, e10, h13⟩ := zrO_some h12
  obtain ⟨zc10, rfl, h14⟩ := zrA1_some h13
  obtain ⟨q2, rfl, h15⟩ := zrB_some h14
  obtain ⟨za11, e11, h16⟩ := zrO_some h15
  obtain ⟨zc12, rfl, h17⟩ := zrA1_some h16
  obtain ⟨q3, rfl, h18⟩ := zrI_some h17
  obtain ⟨zq13, zw14, rfl, h19⟩ := zrL_some h18
  obtain ⟨zk15, rfl, h20⟩ := zrKey_some h19
  obtain ⟨q4, rfl, h21⟩ := zrR_some h20
  obtain ⟨zq16, zw17, rfl, h22⟩ := zrL_some h21
  obtain ⟨zk18, rfl, h23⟩ := zrKey_some h22
  obtain ⟨rfl, h24⟩ := zrX_some h23
  obtain ⟨zq19, zw20, rfl, h25⟩ := zrL_some h24
  obtain ⟨zk21, rfl, h26⟩ := zrKey_some h25
  obtain ⟨rfl, h27⟩ := zrX_some h26
  obtain ⟨zq22, zw23, rfl, h28⟩ := zrL_some h27
  obtain ⟨zk24, rfl, h29⟩ := zrKey_some h28
  obtain ⟨rfl, h30⟩ := zrX_some h29
  obtain ⟨rfl, h31⟩ := zrN_some h30
  have h := Option.some.inj h31
  have hu := congrArg Prod.fst h
  have hv := congrArg Prod.snd h
  dsimp only at hu hv
  subst hu
  subst hv
  exact ⟨rfl, (tm_fill (hj rfl) (Lv := [(0, .one (.d false false (.prod (.prod (.int .i64) (.prod (.int .i64) (.prod (.int .i64) (.int .i64)))) (.prod (.int .i64) (.prod (.int .i64) (.prod (.int .i64) (.int .i64))))) q0)), (6, .one (.v false (Value.slice none (0 : Nat) (0 : Nat)))), (7, .one (.v false (.int .i64 q1))), (8, .one (.s false 1010 0 (none))), (10, .one (.v false (.bool q2))), (11, .one (.v false (.int .i64 q3)))]) (by kernel_rfl) ⟨e0, e6, e7, e8, e10, e11, trivial⟩).trans (by kernel_rfl), rfl⟩
theorem gre2_read_ok (st : Stt) (u : gre2_U) (v : gre2_V) (h : gre2_read st = some (u, v)) : gre2_cok st = true ∧ staysA [] [1010, 1009, 5, 980] st.own = true ∧ gre2_can st = gre2_St u v := by
  obtain ⟨h1, h2, h3⟩ := gre2_rd_ok (fun hb => by rw [Bool.and_eq_true, Bool.and_eq_true] at hb; exact hb.2.2) h
  rw [Bool.and_eq_true, Bool.and_eq_true] at h1
  refine ⟨h1.1, h1.2.1, ?_⟩
  have e : gre2_can st = ⟨(gre2_can st).tm, (gre2_can st).own, 2016⟩ := by kernel_rfl
  rw [e, h2, h3]
  rfl
noncomputable def gre2_cond (u : gre2_U) (v : gre2_V) : Bool := runC (gre2_step u) v
noncomputable def gre2_g (u : gre2_U) (v : gre2_V) : Nat × gre2_V := runG (gre2_step u) v
theorem gre2_hg : ∀ (u : gre2_U) (v : gre2_V), gre2_cond u v = true → loopN (gre2_step u) ((fun u v => runF (gre2_step u) v) u v) v = some (gre2_g u v) := by
  exact fun u v h => run_hg h
noncomputable def gre2_m (st : Stt) : Option (Tr (Ex × Stt)) := sumM gre2_read gre2_cond gre2_St gre2_g [(0, .exit 4)] st
noncomputable def abK_L62 : FuncId → Loops := addL 49 [0, 1, 1, 0, 1, 0, 0, 1, 0, 1, 1, 1, 1, 1] gre2_m abK_L61
set_option maxRecDepth 100000 in
set_option maxHeartbeats 4000000 in
theorem abK_L62_ok : LoopsOK Try.prog abK_L62 :=
  loop_sumF (body := (bodyOf Try.prog 49)) (c := (loopOf (bodyOf Try.prog 49) [1, 1, 1, 1, 1, 0, 1, 0, 0, 1, 0, 1, 1, 0])) (kinds := [.exit 4]) (allow := [(0, .exit 4)]) (St := gre2_St) (step := gre2_step) (W := [1, 2, 3, 4, 5, 9, 12, 13, 14, 15, 16, 17, 18, 19, 20, 21, 22, 23, 24, 25, 26, 27, 28, 29, 30, 31, 32, 33, 34, 35, 36, 37, 38, 39, 40, 41, 42, 43, 44, 45, 46, 47, 48, 49, 50, 51, 52, 53, 54, 55, 56, 57, 58, 59, 60, 61, 62, 63, 64, 65, 66, 67, 68, 69, 70, 71, 72, 73, 74, 75, 76, 77, 78, 79, 80, 81, 82, 83, 84]) (As := []) (ks := [1010, 1009, 5, 980]) (dd := [1009, 5, 980]) (nx := 2016) (n := 100000) (g := gre2_g) (cond := gre2_cond) (fuel := (fun u v => runF (gre2_step u) v)) (read := gre2_read) (by kernel_rfl) (abF_S62_ok) (abK_L61_ok) 7 ⟨Try.f49, by kernel_rfl, by kernel_rfl⟩ (by kernel_rfl) (by kernel_rfl) (by kernel_rfl) gre2_step_eq gre2_hg gre2_read_ok
abbrev gre1_U : Type := (Ty.list (.prod (.prod (.int .i64) (.prod (.int .i64) (.prod (.int .i64) (.int .i64)))) (.prod (.int .i64) (.prod (.int .i64) (.prod (.int .i64) (.int .i64)))))).den × Int
abbrev gre1_V : Type := Bool × (Ty.list (.int .i64)).den
noncomputable def gre1_St (u : gre1_U) (v : gre1_V) : Stt := ⟨[.one (.d false false (.prod (.prod (.int .i64) (.prod (.int .i64) (.prod (.int .i64) (.int .i64)))) (.prod (.int .i64) (.prod (.int .i64) (.prod (.int .i64) (.int .i64))))) u.1), .one .junk, .one .junk, .one .junk, .one .junk, .one .junk, .one (.v false (Value.slice none (0 : Nat) (0 : Nat))), .one (.v false (.int .i64 u.2)), .one (.s false 1010 0 (none)), .one .junk, .one (.v false (.bool v.1)), .one .junk, .one .junk, .one .junk, .one .junk, .one .junk, .one .junk, .one .junk, .one .junk, .one .junk, .one .junk, .one .junk, .one .junk, .one .junk, .one .junk, .one .junk, .one .junk, .one .junk, .one .junk, .one .junk, .one .junk, .one .junk, .one .junk, .one .junk, .one .junk, .one .junk, .one .junk, .one .junk, .one .junk, .one .junk, .one .junk, .one .junk, .one .junk, .one .junk, .one .junk, .one .junk, .one .junk, .one .junk, .one .junk, .one .junk, .one .junk, .one .junk, .one .junk, .one .junk, .one .junk, .one .junk, .one .junk, .one .junk, .one .junk, .one .junk, .one .junk, .one .junk, .one .junk, .one .junk, .one .junk, .one .junk, .one .junk, .one .junk, .one .junk, .one .junk, .one .junk, .one .junk, .one .junk, .one .junk, .one .junk, .one .junk, .one .junk, .one .junk, .one .junk, .one .junk, .one .junk, .one .junk, .one .junk, .one .junk, .one .junk], [(1010, .row true false false 3 (.int .i64) v.2), (1009, .dead), (5, .dead), (980, .dead)], 2013⟩
noncomputable def gre1_step (u : gre1_U) (v : gre1_V) : Tr (gre1_V ⊕ (Nat × gre1_V)) :=
  match u, v with
  | (q0, q1), (q2, q3) => .br (q2) (.br (gre2_cond (q0, q1) (false, (1 : Int), q3)) (.br (Nat.beq (Prod.fst (gre2_g (q0, q1) (false, (1 : Int), q3))) (0 : Nat)) (.ret (.inl (Prod.fst (Prod.snd (gre2_g (q0, q1) (false, (1 : Int), q3))), Prod.snd (Prod.snd (Prod.snd (gre2_g (q0, q1) (false, (1 : Int), q3))))))) (.bad 902)) (.bad 901)) (.ret (.inr (0, (q2, q3))))
set_option maxRecDepth 100000 in
set_option maxHeartbeats 4000000 in
theorem gre1_step_eq : ∀ (u : gre1_U) (v : gre1_V), (evalC Try.prog (evalB Try.prog abF_S62 (opens []) abK_L62 7).1 (evalB Try.prog abF_S62 (opens []) abK_L62 7).2 (opens []) (abK_L62 49) 100000 (0 :: [0, 1, 0, 1, 1, 1, 1, 1]) (loopOf (bodyOf Try.prog 49) [1, 1, 1, 1, 1, 0, 1, 0]) (gre1_St u v) []).bind (finF [1, 2, 3, 4, 5, 9, 11, 12, 13, 14, 15, 16, 17, 18, 19, 20, 21, 22, 23, 24, 25, 26, 27, 28, 29, 30, 31, 32, 33, 34, 35, 36, 37, 38, 39, 40, 41, 42, 43, 44, 45, 46, 47, 48, 49, 50, 51, 52, 53, 54, 55, 56, 57, 58, 59, 60, 61, 62, 63, 64, 65, 66, 67, 68, 69, 70, 71, 72, 73, 74, 75, 76, 77, 78, 79, 80, 81, 82, 83, 84] [] [1010, 1009, 5, 980] [1009, 5, 980] 2013) = (gre1_step u v).bind (outA (gre1_St u) [.exit 2]) := by
  rintro ⟨q0, q1⟩ ⟨q2, q3⟩
  kernel_rfl
noncomputable def gre1_rd (b : Bool) (o0 : Option AV) (o6 : Option AV) (o7 : Option AV) (o8 : Option AV) (o10 : Option AV) (own : Own) : Option (gre1_U × gre1_V) := zrT b <| zrO o0 fun za1 => zrA1 za1 fun zc2 => zrD (.prod (.prod (.int .i64) (.prod (.int .i64) (.prod (.int .i64) (.int .i64)))) (.prod (.int .i64) (.prod (.int .i64) (.prod (.int .i64) (.int .i64))))) zc2 fun q0 => zrO o6 fun za3 => zrA1 za3 fun zc4 => zrNil zc4 <| zrO o7 fun za5 => zrA1 za5 fun zc6 => zrI .i64 zc6 fun q1 => zrO o8 fun za7 => zrA1 za7 fun zc8 => zrSl 1010 0 (none) zc8 <| zrO o10 fun za9 => zrA1 za9 fun zc10 => zrB zc10 fun q2 => zrL own fun zq11 zw12 => zrKey 1010 zq11 fun zk13 => zrR true 3 (.int .i64) zk13 fun q3 => zrL zw12 fun zq14 zw15 => zrKey 1009 zq14 fun zk16 => zrX zk16 <| zrL zw15 fun zq17 zw18 => zrKey 5 zq17 fun zk19 => zrX zk19 <| zrL zw18 fun zq20 zw21 => zrKey 980 zq20 fun zk22 => zrX zk22 <| zrN zw21 <| some ((q0, q1), (q2, q3))
noncomputable def gre1_can (st : Stt) : Stt := canA [1, 2, 3, 4, 5, 9, 11, 12, 13, 14, 15, 16, 17, 18, 19, 20, 21, 22, 23, 24, 25, 26, 27, 28, 29, 30, 31, 32, 33, 34, 35, 36, 37, 38, 39, 40, 41, 42, 43, 44, 45, 46, 47, 48, 49, 50, 51, 52, 53, 54, 55, 56, 57, 58, 59, 60, 61, 62, 63, 64, 65, 66, 67, 68, 69, 70, 71, 72, 73, 74, 75, 76, 77, 78, 79, 80, 81, 82, 83, 84] [] [1010, 1009, 5, 980] [1009, 5, 980] 2013 st
noncomputable def gre1_cok (st : Stt) : Bool := canAok [1, 2, 3, 4, 5, 9, 11, 12, 13, 14, 15, 16, 17, 18, 19, 20, 21, 22, 23, 24, 25, 26, 27, 28, 29, 30, 31, 32, 33, 34, 35, 36, 37, 38, 39, 40, 41, 42, 43, 44, 45, 46, 47, 48, 49, 50, 51, 52, 53, 54, 55, 56, 57, 58, 59, 60, 61, 62, 63, 64, 65, 66, 67, 68, 69, 70, 71, 72, 73, 74, 75, 76, 77, 78, 79, 80, 81, 82, 83, 84] [] [1010, 1009, 5, 980] [1009, 5, 980] 2013 st
noncomputable def gre1_read (st : Stt) : Option (gre1_U × gre1_V) := gre1_rd (gre1_cok st && (staysA [] [1010, 1009, 5, 980] st.own && juAll [1, 2, 3, 4, 5, 9, 11, 12, 13, 14, 15, 16, 17, 18, 19, 20, 21, 22, 23, 24, 25, 26, 27, 28, 29, 30, 31, 32, 33, 34, 35, 36, 37, 38, 39, 40, 41, 42, 43, 44, 45, 46, 47, 48, 49, 50, 51, 52, 53, 54, 55, 56, 57, 58, 59, 60, 61, 62, 63, 64, 65, 66, 67, 68, 69, 70, 71, 72, 73, 74, 75, 76, 77, 78, 79, 80, 81, 82, 83, 84] (gre1_can st).tm 85)) (gre1_can st).tm[0]? (gre1_can st).tm[6]? (gre1_can st).tm[7]? (gre1_can st).tm[8]? (gre1_can st).tm[10]? (gre1_can st).own
set_option maxRecDepth 100000 in
set_option maxHeartbeats 4000000 in
theorem gre1_rd_ok {b : Bool} {tm : List AV} {own : Own} {u : gre1_U} {v : gre1_V} (hj : b = true → juAll [1, 2, 3, 4, 5, 9, 11, 12, 13, 14, 15, 16, 17, 18, 19, 20, 21, 22, 23, 24, 25, 26, 27, 28, 29, 30, 31, 32, 33, 34, 35, 36, 37, 38, 39, 40, 41, 42, 43, 44, 45, 46, 47, 48, 49, 50, 51, 52, 53, 54, 55, 56, 57, 58, 59, 60, 61, 62, 63, 64, 65, 66, 67, 68, 69, 70, 71, 72, 73, 74, 75, 76, 77, 78, 79, 80, 81, 82, 83, 84] tm 85 = true) (h : gre1_rd b tm[0]? tm[6]? tm[7]? tm[8]? tm[10]? own = some (u, v)) : b = true ∧ tm = (gre1_St u v).tm ∧ own = (gre1_St u v).own := by
  unfold gre1_rd at h
  obtain ⟨rfl, h0⟩ := zrT_some h
  obtain ⟨za1, e0, h1⟩ := zrO_some h0
  obtain ⟨zc2, rfl, h2⟩ := zrA1_some h1
  obtain ⟨q0, rfl, h3⟩ := zrD_some h2
  obtain ⟨za3, e6, h4⟩ := zrO_some h3
  obtain ⟨zc4, rfl, h5⟩ := zrA1_some h4
  obtain ⟨rfl, h6⟩ := zrNil_some h5
  obtain ⟨za5, e7, h7⟩ := zrO_some h6
  obtain ⟨zc6, rfl, h8⟩ := zrA1_some h7
  obtain ⟨q1, rfl, h9⟩ := zrI_some h8
  obtain ⟨za7, e8, h10⟩ := zrO_some h9
  obtain ⟨zc8, rfl, h11⟩ := zrA1_some h10
  obtain ⟨rfl, h12⟩ := zrSl_some h11
  obtain ⟨za9, e10, h13⟩ := zrO_some h12
  obtain ⟨zc10, rfl, h14⟩ := zrA1_some h13
  obtain ⟨q2, rfl, h15⟩ := zrB_some h14
  obtain ⟨zq11, zw12, rfl, h16⟩ := zrL_some h15
  obtain ⟨zk13, rfl, h17⟩ := zrKey_some h16
  obtain ⟨q3, rfl, h18⟩ := zrR_some h17
  obtain ⟨zq14, zw15, rfl, h19⟩ := zrL_some h18
  obtain ⟨zk16, rfl, h20⟩ := zrKey_some h19
  obtain ⟨rfl, h21⟩ := zrX_some h20
  obtain ⟨zq17, zw18, rfl, h22⟩ := zrL_some h21
  obtain ⟨zk19, rfl, h23⟩ := zrKey_some h22
  obtain ⟨rfl, h24⟩ := zrX_some h23
  obtain ⟨zq20, zw21, rfl, h25⟩ := zrL_some h24
  obtain ⟨zk22, rfl, h26⟩ := zrKey_some h25
  obtain ⟨rfl, h27⟩ := zrX_some h26
  obtain ⟨rfl, h28⟩ := zrN_some h27
  have h := Option.some.inj h28
  have hu := congrArg Prod.fst h
  have hv := congrArg Prod.snd h
  dsimp only at hu hv
  subst hu
  subst hv
  exact ⟨rfl, (tm_fill (hj rfl) (Lv := [(0, .one (.d false false (.prod (.prod (.int .i64) (.prod (.int .i64) (.prod (.int .i64) (.int .i64)))) (.prod (.int .i64) (.prod (.int .i64) (.prod (.int .i64) (.int .i64))))) q0)), (6, .one (.v false (Value.slice none (0 : Nat) (0 : Nat)))), (7, .one (.v false (.int .i64 q1))), (8, .one (.s false 1010 0 (none))), (10, .one (.v false (.bool q2)))]) (by kernel_rfl) ⟨e0, e6, e7, e8, e10, trivial⟩).trans (by kernel_rfl), rfl⟩
theorem gre1_read_ok (st : Stt) (u : gre1_U) (v : gre1_V) (h : gre1_read st = some (u, v)) : gre1_cok st = true ∧ staysA [] [1010, 1009, 5, 980] st.own = true ∧ gre1_can st = gre1_St u v := by
  obtain ⟨h1, h2, h3⟩ := gre1_rd_ok (fun hb => by rw [Bool.and_eq_true, Bool.and_eq_true] at hb; exact hb.2.2) h
  rw [Bool.and_eq_true, Bool.and_eq_true] at h1
  refine ⟨h1.1, h1.2.1, ?_⟩
  have e : gre1_can st = ⟨(gre1_can st).tm, (gre1_can st).own, 2013⟩ := by kernel_rfl
  rw [e, h2, h3]
  rfl
noncomputable def gre1_cond (u : gre1_U) (v : gre1_V) : Bool := runC (gre1_step u) v
noncomputable def gre1_g (u : gre1_U) (v : gre1_V) : Nat × gre1_V := runG (gre1_step u) v
theorem gre1_hg : ∀ (u : gre1_U) (v : gre1_V), gre1_cond u v = true → loopN (gre1_step u) ((fun u v => runF (gre1_step u) v) u v) v = some (gre1_g u v) := by
  exact fun u v h => run_hg h
noncomputable def gre1_m (st : Stt) : Option (Tr (Ex × Stt)) := sumM gre1_read gre1_cond gre1_St gre1_g [(0, .exit 2)] st
noncomputable def abK_L63 : FuncId → Loops := addL 49 [0, 1, 0, 1, 1, 1, 1, 1] gre1_m abK_L62
set_option maxRecDepth 100000 in
set_option maxHeartbeats 4000000 in
theorem abK_L63_ok : LoopsOK Try.prog abK_L63 :=
  loop_sumF (body := (bodyOf Try.prog 49)) (c := (loopOf (bodyOf Try.prog 49) [1, 1, 1, 1, 1, 0, 1, 0])) (kinds := [.exit 2]) (allow := [(0, .exit 2)]) (St := gre1_St) (step := gre1_step) (W := [1, 2, 3, 4, 5, 9, 11, 12, 13, 14, 15, 16, 17, 18, 19, 20, 21, 22, 23, 24, 25, 26, 27, 28, 29, 30, 31, 32, 33, 34, 35, 36, 37, 38, 39, 40, 41, 42, 43, 44, 45, 46, 47, 48, 49, 50, 51, 52, 53, 54, 55, 56, 57, 58, 59, 60, 61, 62, 63, 64, 65, 66, 67, 68, 69, 70, 71, 72, 73, 74, 75, 76, 77, 78, 79, 80, 81, 82, 83, 84]) (As := []) (ks := [1010, 1009, 5, 980]) (dd := [1009, 5, 980]) (nx := 2013) (n := 100000) (g := gre1_g) (cond := gre1_cond) (fuel := (fun u v => runF (gre1_step u) v)) (read := gre1_read) (by kernel_rfl) (abF_S62_ok) (abK_L62_ok) 7 ⟨Try.f49, by kernel_rfl, by kernel_rfl⟩ (by kernel_rfl) (by kernel_rfl) (by kernel_rfl) gre1_step_eq gre1_hg gre1_read_ok
abbrev rcc_U : Type := (Ty.list (.prod (.prod (.int .i64) (.prod (.int .i64) (.prod (.int .i64) (.int .i64)))) (.prod (.int .i64) (.prod (.int .i64) (.prod (.int .i64) (.int .i64)))))).den × (Ty.list (.int .i64)).den × (Ty.list (.int .i64)).den × Int
abbrev rcc_V : Type := Bool × Int
noncomputable def rcc_St (u : rcc_U) (v : rcc_V) : Stt := ⟨[.one (.d false false (.prod (.prod (.int .i64) (.prod (.int .i64) (.prod (.int .i64) (.int .i64)))) (.prod (.int .i64) (.prod (.int .i64) (.prod (.int .i64) (.int .i64))))) u.1), .one (.d false false (.int .i64) u.2.1), .one .junk, .one (.d false false (.int .i64) u.2.2.1), .one .junk, .one .junk, .one .junk, .one .junk, .one (.v false (.bool v.1)), .one (.v false (.int .i64 u.2.2.2)), .one (.v false (.int .i64 v.2)), .one .junk, .one .junk, .one .junk, .one .junk, .one .junk, .one .junk, .one .junk, .one .junk, .one .junk, .one .junk, .one .junk, .one .junk, .one .junk, .one .junk, .one .junk, .one .junk, .one .junk, .one .junk, .one .junk, .one .junk, .one .junk, .one .junk, .one .junk, .one .junk, .one .junk, .one .junk, .one .junk, .one .junk, .one .junk, .one .junk, .one .junk, .one .junk, .one .junk, .one .junk, .one .junk, .one .junk, .one .junk, .one .junk, .one .junk, .one .junk, .one .junk, .one .junk, .one .junk, .one .junk, .one .junk, .one .junk, .one .junk, .one .junk, .one .junk, .one .junk, .one .junk, .one .junk, .one .junk, .one .junk, .one .junk, .one .junk, .one .junk, .one .junk, .one .junk, .one .junk, .one .junk, .one .junk, .one .junk, .one .junk, .one .junk, .one .junk, .one .junk, .one .junk, .one .junk, .one .junk, .one .junk, .one .junk, .one .junk, .one .junk, .one .junk, .one .junk, .one .junk, .one .junk, .one .junk, .one .junk, .one .junk, .one .junk, .one .junk, .one .junk, .one .junk, .one .junk, .one .junk, .one .junk, .one .junk, .one .junk, .one .junk, .one .junk, .one .junk, .one .junk, .one .junk, .one .junk, .one .junk, .one .junk, .one .junk, .one .junk], [], 1017⟩
noncomputable def rcc_step (u : rcc_U) (v : rcc_V) : Tr (rcc_V ⊕ (Nat × rcc_V)) :=
  match u, v with
  | (q0, q1, q2, q4), (q3, q5) => .br (decide (q5 ≤ q4)) (.br (decide ((0 : Int) ≤ q5) && decide (q5 < (↑(List.length q2) : Int))) (.br ((bif decide (el_i q2 q5 < (0 : Int)) then true else (bif decide (q5 < q4) then ((decide ((0 : Int) ≤ q5) && decide (q5 < (↑(List.length q2) : Int))) && (decide ((0 : Int) ≤ q5) && decide (q5 < (↑(List.length q0) : Int)))) else true))) (.br ((bif bif decide (el_i q2 q5 < (0 : Int)) then true else bif decide (q5 < q4) then decide (el_i q2 q5 > Prod.fst (Prod.snd (Prod.snd (Prod.snd (el_iiiiiiii q0 q5))))) else false then true else (bif decide (q5 > (0 : Int)) then ((decide ((0 : Int) ≤ q5) && decide (q5 < (↑(List.length q2) : Int))) && (decide ((0 : Int) ≤ IntKind.wrap IntKind.i64 (q5 - (1 : Int))) && decide (IntKind.wrap IntKind.i64 (q5 - (1 : Int)) < (↑(List.length q0) : Int)))) else true))) (.br ((bif bif bif decide (el_i q2 q5 < (0 : Int)) then true else bif decide (q5 < q4) then decide (el_i q2 q5 > Prod.fst (Prod.snd (Prod.snd (Prod.snd (el_iiiiiiii q0 q5))))) else false then true else bif decide (q5 > (0 : Int)) then decide (el_i q2 q5 > Prod.fst (Prod.snd (Prod.snd (Prod.snd (el_iiiiiiii q0 (IntKind.wrap IntKind.i64 (q5 - (1 : Int)))))))) else false then true else (bif decide (q5 > (0 : Int)) then (bif decide (q5 < q4) then ((decide ((0 : Int) ≤ q5) && decide (q5 < (↑(List.length q2) : Int))) && (decide ((0 : Int) ≤ q5) && decide (q5 < (↑(List.length q1) : Int)))) else true) else (bif false then ((decide ((0 : Int) ≤ q5) && decide (q5 < (↑(List.length q2) : Int))) && (decide ((0 : Int) ≤ q5) && decide (q5 < (↑(List.length q1) : Int)))) else true)))) (.br (bif bif bif decide (el_i q2 q5 < (0 : Int)) then true else bif decide (q5 < q4) then decide (el_i q2 q5 > Prod.fst (Prod.snd (Prod.snd (Prod.snd (el_iiiiiiii q0 q5))))) else false then true else bif decide (q5 > (0 : Int)) then decide (el_i q2 q5 > Prod.fst (Prod.snd (Prod.snd (Prod.snd (el_iiiiiiii q0 (IntKind.wrap IntKind.i64 (q5 - (1 : Int)))))))) else false then true else bif decide (q5 > (0 : Int)) then bif decide (q5 < q4) then decide (el_i q2 q5 > el_i q1 q5) else false else false) (.ret (.inr (0, (false, q5)))) (.br ((bif decide (q5 < q4) then ((decide ((0 : Int) ≤ IntKind.wrap IntKind.i64 (q5 + (1 : Int))) && decide (IntKind.wrap IntKind.i64 (q5 + (1 : Int)) < (↑(List.length q2) : Int))) && ((decide ((0 : Int) ≤ q5) && decide (q5 < (↑(List.length q2) : Int))) && (decide ((0 : Int) ≤ q5) && decide (q5 < (↑(List.length q0) : Int))))) else true)) (.br (bif decide (q5 < q4) then decide ((if IntKind.wrap IntKind.i64 ((0 : Int) - IntKind.wrap IntKind.i64 (el_i q2 (IntKind.wrap IntKind.i64 (q5 + (1 : Int))) - el_i q2 q5)) > IntKind.wrap IntKind.i64 (el_i q2 (IntKind.wrap IntKind.i64 (q5 + (1 : Int))) - el_i q2 q5) then IntKind.wrap IntKind.i64 ((0 : Int) - IntKind.wrap IntKind.i64 (el_i q2 (IntKind.wrap IntKind.i64 (q5 + (1 : Int))) - el_i q2 q5)) else IntKind.wrap IntKind.i64 (el_i q2 (IntKind.wrap IntKind.i64 (q5 + (1 : Int))) - el_i q2 q5)) > reach (Prod.fst (Prod.fst (el_iiiiiiii q0 q5))) (Prod.fst (Prod.snd (Prod.fst (el_iiiiiiii q0 q5)))) (Prod.fst (Prod.snd (Prod.snd (Prod.fst (el_iiiiiiii q0 q5))))) (Prod.snd (Prod.snd (Prod.snd (Prod.fst (el_iiiiiiii q0 q5))))) (Prod.fst (Prod.snd (el_iiiiiiii q0 q5)))) else false) (.ret (.inr (0, (false, q5)))) (.ret (.inl (q3, IntKind.wrap IntKind.i64 (q5 + (1 : Int)))))) (.bad 117))) (.bad 117)) (.bad 117)) (.bad 117)) (.bad 29)) (.ret (.inr (1, (q3, q5))))
set_option maxRecDepth 100000 in
set_option maxHeartbeats 4000000 in
theorem rcc_step_eq : ∀ (u : rcc_U) (v : rcc_V), (evalC Try.prog (evalB Try.prog abF_S62 (opens []) abK_L63 7).1 (evalB Try.prog abF_S62 (opens []) abK_L63 7).2 (opens []) (abK_L63 43) 100000 (0 :: [0, 1, 0, 1, 1, 1]) (loopOf (bodyOf Try.prog 43) [1, 1, 1, 0, 1, 0]) (rcc_St u v) []).bind (finF [2, 4, 5, 6, 7, 11, 12, 13, 14, 15, 16, 17, 18, 19, 20, 21, 22, 23, 24, 25, 26, 27, 28, 29, 30, 31, 32, 33, 34, 35, 36, 37, 38, 39, 40, 41, 42, 43, 44, 45, 46, 47, 48, 49, 50, 51, 52, 53, 54, 55, 56, 57, 58, 59, 60, 61, 62, 63, 64, 65, 66, 67, 68, 69, 70, 71, 72, 73, 74, 75, 76, 77, 78, 79, 80, 81, 82, 83, 84, 85, 86, 87, 88, 89, 90, 91, 92, 93, 94, 95, 96, 97, 98, 99, 100, 101, 102, 103, 104, 105, 106, 107, 108, 109, 110] [] [] [] 1017) = (rcc_step u v).bind (outA (rcc_St u) [.ret, .exit 0]) := by
  rintro ⟨q0, q1, q2, q4⟩ ⟨q3, q5⟩
  kernel_rfl
noncomputable def rcc_rd (b : Bool) (o0 : Option AV) (o1 : Option AV) (o3 : Option AV) (o8 : Option AV) (o9 : Option AV) (o10 : Option AV) (own : Own) : Option (rcc_U × rcc_V) := zrT b <| zrO o0 fun za1 => zrA1 za1 fun zc2 => zrD (.prod (.prod (.int .i64) (.prod (.int .i64) (.prod (.int .i64) (.int .i64)))) (.prod (.int .i64) (.prod (.int .i64) (.prod (.int .i64) (.int .i64))))) zc2 fun q0 => zrO o1 fun za3 => zrA1 za3 fun zc4 => zrD (.int .i64) zc4 fun q1 => zrO o3 fun za5 => zrA1 za5 fun zc6 => zrD (.int .i64) zc6 fun q2 => zrO o8 fun za7 => zrA1 za7 fun zc8 => zrB zc8 fun q3 => zrO o9 fun za9 => zrA1 za9 fun zc10 => zrI .i64 zc10 fun q4 => zrO o10 fun za11 => zrA1 za11 fun zc12 => zrI .i64 zc12 fun q5 => zrN own <| some ((q0, q1, q2, q4), (q3, q5))
noncomputable def rcc_can (st : Stt) : Stt := canA [2, 4, 5, 6, 7, 11, 12, 13, 14, 15, 16, 17, 18, 19, 20, 21, 22, 23, 24, 25, 26, 27, 28, 29, 30, 31, 32, 33, 34, 35, 36, 37, 38, 39, 40, 41, 42, 43, 44, 45, 46, 47, 48, 49, 50, 51, 52, 53, 54, 55, 56, 57, 58, 59, 60, 61, 62, 63, 64, 65, 66, 67, 68, 69, 70, 71, 72, 73, 74, 75, 76, 77, 78, 79, 80, 81, 82, 83, 84, 85, 86, 87, 88, 89, 90, 91, 92, 93, 94, 95, 96, 97, 98, 99, 100, 101, 102, 103, 104, 105, 106, 107, 108, 109, 110] [] [] [] 1017 st
noncomputable def rcc_cok (st : Stt) : Bool := canAok [2, 4, 5, 6, 7, 11, 12, 13, 14, 15, 16, 17, 18, 19, 20, 21, 22, 23, 24, 25, 26, 27, 28, 29, 30, 31, 32, 33, 34, 35, 36, 37, 38, 39, 40, 41, 42, 43, 44, 45, 46, 47, 48, 49, 50, 51, 52, 53, 54, 55, 56, 57, 58, 59, 60, 61, 62, 63, 64, 65, 66, 67, 68, 69, 70, 71, 72, 73, 74, 75, 76, 77, 78, 79, 80, 81, 82, 83, 84, 85, 86, 87, 88, 89, 90, 91, 92, 93, 94, 95, 96, 97, 98, 99, 100, 101, 102, 103, 104, 105, 106, 107, 108, 109, 110] [] [] [] 1017 st
noncomputable def rcc_read (st : Stt) : Option (rcc_U × rcc_V) := rcc_rd (rcc_cok st && (staysA [] [] st.own && juAll [2, 4, 5, 6, 7, 11, 12, 13, 14, 15, 16, 17, 18, 19, 20, 21, 22, 23, 24, 25, 26, 27, 28, 29, 30, 31, 32, 33, 34, 35, 36, 37, 38, 39, 40, 41, 42, 43, 44, 45, 46, 47, 48, 49, 50, 51, 52, 53, 54, 55, 56, 57, 58, 59, 60, 61, 62, 63, 64, 65, 66, 67, 68, 69, 70, 71, 72, 73, 74, 75, 76, 77, 78, 79, 80, 81, 82, 83, 84, 85, 86, 87, 88, 89, 90, 91, 92, 93, 94, 95, 96, 97, 98, 99, 100, 101, 102, 103, 104, 105, 106, 107, 108, 109, 110] (rcc_can st).tm 111)) (rcc_can st).tm[0]? (rcc_can st).tm[1]? (rcc_can st).tm[3]? (rcc_can st).tm[8]? (rcc_can st).tm[9]? (rcc_can st).tm[10]? (rcc_can st).own
set_option maxRecDepth 100000 in
set_option maxHeartbeats 4000000 in
theorem rcc_rd_ok {b : Bool} {tm : List AV} {own : Own} {u : rcc_U} {v : rcc_V} (hj : b = true → juAll [2, 4, 5, 6, 7, 11, 12, 13, 14, 15, 16, 17, 18, 19, 20, 21, 22, 23, 24, 25, 26, 27, 28, 29, 30, 31, 32, 33, 34, 35, 36, 37, 38, 39, 40, 41, 42, 43, 44, 45, 46, 47, 48, 49, 50, 51, 52, 53, 54, 55, 56, 57, 58, 59, 60, 61, 62, 63, 64, 65, 66, 67, 68, 69, 70, 71, 72, 73, 74, 75, 76, 77, 78, 79, 80, 81, 82, 83, 84, 85, 86, 87, 88, 89, 90, 91, 92, 93, 94, 95, 96, 97, 98, 99, 100, 101, 102, 103, 104, 105, 106, 107, 108, 109, 110] tm 111 = true) (h : rcc_rd b tm[0]? tm[1]? tm[3]? tm[8]? tm[9]? tm[10]? own = some (u, v)) : b = true ∧ tm = (rcc_St u v).tm ∧ own = (rcc_St u v).own := by
  unfold rcc_rd at h
  obtain ⟨rfl, h0⟩ := zrT_some h
  obtain ⟨za1, e0, h1⟩ := zrO_some h0
  obtain ⟨zc2, rfl, h2⟩ := zrA1_some h1
  obtain ⟨q0, rfl, h3⟩ := zrD_some h2
  obtain ⟨za3, e1, h4⟩ := zrO_some h3
  obtain ⟨zc4, rfl, h5⟩ := zrA1_some h4
  obtain ⟨q1, rfl, h6⟩ := zrD_some h5
  obtain ⟨za5, e3, h7⟩ := zrO_some h6
  obtain ⟨zc6, rfl, h8⟩ := zrA1_some h7
  obtain ⟨q2, rfl, h9⟩ := zrD_some h8
  obtain ⟨za7, e8, h10⟩ := zrO_some h9
  obtain ⟨zc8, rfl, h11⟩ := zrA1_some h10
  obtain ⟨q3, rfl, h12⟩ := zrB_some h11
  obtain ⟨za9, e9, h13⟩ := zrO_some h12
  obtain ⟨zc10, rfl, h14⟩ := zrA1_some h13
  obtain ⟨q4, rfl, h15⟩ := zrI_some h14
  obtain ⟨za11, e10, h16⟩ := zrO_some h15
  obtain ⟨zc12, rfl, h17⟩ := zrA1_some h16
  obtain ⟨q5, rfl, h18⟩ := zrI_some h17
  obtain ⟨rfl, h19⟩ := zrN_some h18
  have h := Option.some.inj h19
  have hu := congrArg Prod.fst h
  have hv := congrArg Prod.snd h
  dsimp only at hu hv
  subst hu
  subst hv
  exact ⟨rfl, (tm_fill (hj rfl) (Lv := [(0, .one (.d false false (.prod (.prod (.int .i64) (.prod (.int .i64) (.prod (.int .i64) (.int .i64)))) (.prod (.int .i64) (.prod (.int .i64) (.prod (.int .i64) (.int .i64))))) q0)), (1, .one (.d false false (.int .i64) q1)), (3, .one (.d false false (.int .i64) q2)), (8, .one (.v false (.bool q3))), (9, .one (.v false (.int .i64 q4))), (10, .one (.v false (.int .i64 q5)))]) (by kernel_rfl) ⟨e0, e1, e3, e8, e9, e10, trivial⟩).trans (by kernel_rfl), rfl⟩
theorem rcc_read_ok (st : Stt) (u : rcc_U) (v : rcc_V) (h : rcc_read st = some (u, v)) : rcc_cok st = true ∧ staysA [] [] st.own = true ∧ rcc_can st = rcc_St u v := by
  obtain ⟨h1, h2, h3⟩ := rcc_rd_ok (fun hb => by rw [Bool.and_eq_true, Bool.and_eq_true] at hb; exact hb.2.2) h
  rw [Bool.and_eq_true, Bool.and_eq_true] at h1
  refine ⟨h1.1, h1.2.1, ?_⟩
  have e : rcc_can st = ⟨(rcc_can st).tm, (rcc_can st).own, 1017⟩ := by kernel_rfl
  rw [e, h2, h3]
  rfl
noncomputable def rcc_cond (u : rcc_U) (v : rcc_V) : Bool := runC (rcc_step u) v
noncomputable def rcc_g (u : rcc_U) (v : rcc_V) : Nat × rcc_V := runG (rcc_step u) v
theorem rcc_hg : ∀ (u : rcc_U) (v : rcc_V), rcc_cond u v = true → loopN (rcc_step u) ((fun u v => runF (rcc_step u) v) u v) v = some (rcc_g u v) := by
  exact fun u v h => run_hg h
noncomputable def rcc_m (st : Stt) : Option (Tr (Ex × Stt)) := sumM rcc_read rcc_cond rcc_St rcc_g [(0, .ret), (1, .exit 0)] st
noncomputable def abK_L64 : FuncId → Loops := addL 43 [0, 1, 0, 1, 1, 1] rcc_m abK_L63
set_option maxRecDepth 100000 in
set_option maxHeartbeats 4000000 in
theorem abK_L64_ok : LoopsOK Try.prog abK_L64 :=
  loop_sumF (body := (bodyOf Try.prog 43)) (c := (loopOf (bodyOf Try.prog 43) [1, 1, 1, 0, 1, 0])) (kinds := [.ret, .exit 0]) (allow := [(0, .ret), (1, .exit 0)]) (St := rcc_St) (step := rcc_step) (W := [2, 4, 5, 6, 7, 11, 12, 13, 14, 15, 16, 17, 18, 19, 20, 21, 22, 23, 24, 25, 26, 27, 28, 29, 30, 31, 32, 33, 34, 35, 36, 37, 38, 39, 40, 41, 42, 43, 44, 45, 46, 47, 48, 49, 50, 51, 52, 53, 54, 55, 56, 57, 58, 59, 60, 61, 62, 63, 64, 65, 66, 67, 68, 69, 70, 71, 72, 73, 74, 75, 76, 77, 78, 79, 80, 81, 82, 83, 84, 85, 86, 87, 88, 89, 90, 91, 92, 93, 94, 95, 96, 97, 98, 99, 100, 101, 102, 103, 104, 105, 106, 107, 108, 109, 110]) (As := []) (ks := []) (dd := []) (nx := 1017) (n := 100000) (g := rcc_g) (cond := rcc_cond) (fuel := (fun u v => runF (rcc_step u) v)) (read := rcc_read) (by kernel_rfl) (abF_S62_ok) (abK_L63_ok) 7 ⟨Try.f43, by kernel_rfl, by kernel_rfl⟩ (by kernel_rfl) (by kernel_rfl) (by kernel_rfl) rcc_step_eq rcc_hg rcc_read_ok
abbrev sam_U : Type := (Ty.list (.prod (.prod (.int .i64) (.prod (.int .i64) (.prod (.int .i64) (.int .i64)))) (.prod (.int .i64) (.prod (.int .i64) (.prod (.int .i64) (.int .i64)))))).den × (Ty.list (.prod (.prod (.int .i64) (.prod (.int .i64) (.prod (.int .i64) (.int .i64)))) (.prod (.int .i64) (.prod (.int .i64) (.prod (.int .i64) (.int .i64)))))).den × Int
abbrev sam_V : Type := Bool × Int
noncomputable def sam_St (u : sam_U) (v : sam_V) : Stt := ⟨[.one (.d false false (.prod (.prod (.int .i64) (.prod (.int .i64) (.prod (.int .i64) (.int .i64)))) (.prod (.int .i64) (.prod (.int .i64) (.prod (.int .i64) (.int .i64))))) u.1), .one (.d false false (.prod (.prod (.int .i64) (.prod (.int .i64) (.prod (.int .i64) (.int .i64)))) (.prod (.int .i64) (.prod (.int .i64) (.prod (.int .i64) (.int .i64))))) u.2.1), .one .junk, .one .junk, .one (.v false (.bool v.1)), .one .junk, .one .junk, .one .junk, .one .junk, .one .junk, .one .junk, .one .junk, .one (.v false (.int .i64 u.2.2)), .one (.v false (.int .i64 v.2)), .one .junk, .one .junk, .one .junk, .one .junk, .one .junk, .one .junk, .one .junk, .one .junk, .one .junk, .one .junk, .one .junk, .one .junk], [], 1009⟩
noncomputable def sam_step (u : sam_U) (v : sam_V) : Tr (sam_V ⊕ (Nat × sam_V)) :=
  match u, v with
  | (q0, q1, q3), (q2, q4) => .br (decide (q4 < q3)) (.br (decide ((0 : Int) ≤ q4) && decide (q4 < (↑(List.length q0) : Int))) (.br (decide ((0 : Int) ≤ q4) && decide (q4 < (↑(List.length q1) : Int))) (.br (!(Prod.fst (Prod.fst (el_iiiiiiii q0 q4)) == Prod.fst (Prod.fst (el_iiiiiiii q1 q4)) && (Prod.fst (Prod.snd (Prod.fst (el_iiiiiiii q0 q4))) == Prod.fst (Prod.snd (Prod.fst (el_iiiiiiii q1 q4))) && (Prod.fst (Prod.snd (Prod.snd (Prod.fst (el_iiiiiiii q0 q4)))) == Prod.fst (Prod.snd (Prod.snd (Prod.fst (el_iiiiiiii q1 q4)))) && (Prod.snd (Prod.snd (Prod.snd (Prod.fst (el_iiiiiiii q0 q4)))) == Prod.snd (Prod.snd (Prod.snd (Prod.fst (el_iiiiiiii q1 q4)))) && true))) && (Prod.fst (Prod.snd (el_iiiiiiii q0 q4)) == Prod.fst (Prod.snd (el_iiiiiiii q1 q4)) && (Prod.fst (Prod.snd (Prod.snd (el_iiiiiiii q0 q4))) == Prod.fst (Prod.snd (Prod.snd (el_iiiiiiii q1 q4))) && (Prod.fst (Prod.snd (Prod.snd (Prod.snd (el_iiiiiiii q0 q4)))) == Prod.fst (Prod.snd (Prod.snd (Prod.snd (el_iiiiiiii q1 q4)))) && (Prod.snd (Prod.snd (Prod.snd (Prod.snd (el_iiiiiiii q0 q4)))) == Prod.snd (Prod.snd (Prod.snd (Prod.snd (el_iiiiiiii q1 q4)))) && true)))))) (.ret (.inr (0, (false, q4)))) (.ret (.inl (q2, IntKind.wrap IntKind.i64 (q4 + (1 : Int)))))) (.bad 29)) (.bad 29)) (.ret (.inr (1, (q2, q4))))
set_option maxRecDepth 100000 in
set_option maxHeartbeats 4000000 in
theorem sam_step_eq : ∀ (u : sam_U) (v : sam_V), (evalC Try.prog (evalB Try.prog abF_S62 (opens []) abK_L64 7).1 (evalB Try.prog abF_S62 (opens []) abK_L64 7).2 (opens []) (abK_L64 20) 100000 (0 :: [0, 1, 0, 1, 1]) (loopOf (bodyOf Try.prog 20) [1, 1, 0, 1, 0]) (sam_St u v) []).bind (finF [2, 3, 5, 6, 7, 8, 9, 10, 11, 14, 15, 16, 17, 18, 19, 20, 21, 22, 23, 24, 25] [] [] [] 1009) = (sam_step u v).bind (outA (sam_St u) [.ret, .exit 0]) := by
  rintro ⟨q0, q1, q3⟩ ⟨q2, q4⟩
  kernel_rfl
noncomputable def sam_rd (b : Bool) (o0 : Option AV) (o1 : Option AV) (o4 : Option AV) (o12 : Option AV) (o13 : Option AV) (own : Own) : Option (sam_U × sam_V) := zrT b <| zrO o0 fun za1 => zrA1 za1 fun zc2 => zrD (.prod (.prod (.int .i64) (.prod (.int .i64) (.prod (.int .i64) (.int .i64)))) (.prod (.int .i64) (.prod (.int .i64) (.prod (.int .i64) (.int .i64))))) zc2 fun q0 => zrO o1 fun za3 => zrA1 za3 fun zc4 => zrD (.prod (.prod (.int .i64) (.prod (.int .i64) (.prod (.int .i64) (.int .i64)))) (.prod (.int .i64) (.prod (.int .i64) (.prod (.int .i64) (.int .i64))))) zc4 fun q1 => zrO o4 fun za5 => zrA1 za5 fun zc6 => zrB zc6 fun q2 => zrO o12 fun za7 => zrA1 za7 fun zc8 => zrI .i64 zc8 fun q3 => zrO o13 fun za9 => zrA1 za9 fun zc10 => zrI .i64 zc10 fun q4 => zrN own <| some ((q0, q1, q3), (q2, q4))
noncomputable def sam_can (st : Stt) : Stt := canA [2, 3, 5, 6, 7, 8, 9, 10, 11, 14, 15, 16, 17, 18, 19, 20, 21, 22, 23, 24, 25] [] [] [] 1009 st
noncomputable def sam_cok (st : Stt) : Bool := canAok [2, 3, 5, 6, 7, 8, 9, 10, 11, 14, 15, 16, 17, 18, 19, 20, 21, 22, 23, 24, 25] [] [] [] 1009 st
noncomputable def sam_read (st : Stt) : Option (sam_U × sam_V) := sam_rd (sam_cok st && (staysA [] [] st.own && juAll [2, 3, 5, 6, 7, 8, 9, 10, 11, 14, 15, 16, 17, 18, 19, 20, 21, 22, 23, 24, 25] (sam_can st).tm 26)) (sam_can st).tm[0]? (sam_can st).tm[1]? (sam_can st).tm[4]? (sam_can st).tm[12]? (sam_can st).tm[13]? (sam_can st).own
set_option maxRecDepth 100000 in
set_option maxHeartbeats 4000000 in
theorem sam_rd_ok {b : Bool} {tm : List AV} {own : Own} {u : sam_U} {v : sam_V} (hj : b = true → juAll [2, 3, 5, 6, 7, 8, 9, 10, 11, 14, 15, 16, 17, 18, 19, 20, 21, 22, 23, 24, 25] tm 26 = true) (h : sam_rd b tm[0]? tm[1]? tm[4]? tm[12]? tm[13]? own = some (u, v)) : b = true ∧ tm = (sam_St u v).tm ∧ own = (sam_St u v).own := by
  unfold sam_rd at h
  obtain ⟨rfl, h0⟩ := zrT_some h
  obtain ⟨za1, e0, h1⟩ := zrO_some h0
  obtain ⟨zc2, rfl, h2⟩ := zrA1_some h1
  obtain ⟨q0, rfl, h3⟩ := zrD_some h2
  obtain ⟨za3, e1, h4⟩ := zrO_some h3
  obtain ⟨zc4, rfl, h5⟩ := zrA1_some h4
  obtain ⟨q1, rfl, h6⟩ := zrD_some h5
  obtain ⟨za5, e4, h7⟩ := zrO_some h6
  obtain ⟨zc6, rfl, h8⟩ := zrA1_some h7
  obtain ⟨q2, rfl, h9⟩ := zrB_some h8
  obtain ⟨za7, e12, h10⟩ := zrO_some h9
  obtain ⟨zc8, rfl, h11⟩ := zrA1_some h10
  obtain ⟨q3, rfl, h12⟩ := zrI_some h11
  obtain ⟨za9, e13, h13⟩ := zrO_some h12
  obtain ⟨zc10, rfl, h14⟩ := zrA1_some h13
  obtain ⟨q4, rfl, h15⟩ := zrI_some h14
  obtain ⟨rfl, h16⟩ := zrN_some h15
  have h := Option.some.inj h16
  have hu := congrArg Prod.fst h
  have hv := congrArg Prod.snd h
  dsimp only at hu hv
  subst hu
  subst hv
  exact ⟨rfl, (tm_fill (hj rfl) (Lv := [(0, .one (.d false false (.prod (.prod (.int .i64) (.prod (.int .i64) (.prod (.int .i64) (.int .i64)))) (.prod (.int .i64) (.prod (.int .i64) (.prod (.int .i64) (.int .i64))))) q0)), (1, .one (.d false false (.prod (.prod (.int .i64) (.prod (.int .i64) (.prod (.int .i64) (.int .i64)))) (.prod (.int .i64) (.prod (.int .i64) (.prod (.int .i64) (.int .i64))))) q1)), (4, .one (.v false (.bool q2))), (12, .one (.v false (.int .i64 q3))), (13, .one (.v false (.int .i64 q4)))]) (by kernel_rfl) ⟨e0, e1, e4, e12, e13, trivial⟩).trans (by kernel_rfl), rfl⟩
theorem sam_read_ok (st : Stt) (u : sam_U) (v : sam_V) (h : sam_read st = some (u, v)) : sam_cok st = true ∧ staysA [] [] st.own = true ∧ sam_can st = sam_St u v := by
  obtain ⟨h1, h2, h3⟩ := sam_rd_ok (fun hb => by rw [Bool.and_eq_true, Bool.and_eq_true] at hb; exact hb.2.2) h
  rw [Bool.and_eq_true, Bool.and_eq_true] at h1
  refine ⟨h1.1, h1.2.1, ?_⟩
  have e : sam_can st = ⟨(sam_can st).tm, (sam_can st).own, 1009⟩ := by kernel_rfl
  rw [e, h2, h3]
  rfl
noncomputable def sam_cond (u : sam_U) (v : sam_V) : Bool := runC (sam_step u) v
noncomputable def sam_g (u : sam_U) (v : sam_V) : Nat × sam_V := runG (sam_step u) v
theorem sam_hg : ∀ (u : sam_U) (v : sam_V), sam_cond u v = true → loopN (sam_step u) ((fun u v => runF (sam_step u) v) u v) v = some (sam_g u v) := by
  exact fun u v h => run_hg h
noncomputable def sam_m (st : Stt) : Option (Tr (Ex × Stt)) := sumM sam_read sam_cond sam_St sam_g [(0, .ret), (1, .exit 0)] st
noncomputable def abK_L65 : FuncId → Loops := addL 20 [0, 1, 0, 1, 1] sam_m abK_L64
set_option maxRecDepth 100000 in
set_option maxHeartbeats 4000000 in
theorem abK_L65_ok : LoopsOK Try.prog abK_L65 :=
  loop_sumF (body := (bodyOf Try.prog 20)) (c := (loopOf (bodyOf Try.prog 20) [1, 1, 0, 1, 0])) (kinds := [.ret, .exit 0]) (allow := [(0, .ret), (1, .exit 0)]) (St := sam_St) (step := sam_step) (W := [2, 3, 5, 6, 7, 8, 9, 10, 11, 14, 15, 16, 17, 18, 19, 20, 21, 22, 23, 24, 25]) (As := []) (ks := []) (dd := []) (nx := 1009) (n := 100000) (g := sam_g) (cond := sam_cond) (fuel := (fun u v => runF (sam_step u) v)) (read := sam_read) (by kernel_rfl) (abF_S62_ok) (abK_L64_ok) 7 ⟨Try.f20, by kernel_rfl, by kernel_rfl⟩ (by kernel_rfl) (by kernel_rfl) (by kernel_rfl) sam_step_eq sam_hg sam_read_ok
end Go.Proofs.Ytaidlflnkdamkaa
