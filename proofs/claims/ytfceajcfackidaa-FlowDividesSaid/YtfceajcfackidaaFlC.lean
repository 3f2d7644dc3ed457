/-
  Layer 35: loops.
-/
import Derived.Test.YtfceajcfackidaaProg
import Derived.Test.YtfceajcfackidaaFvX
import Derived.Test.YtfceajcfackidaaFvZ
import Derived.Test.YtfceajcfackidaaAut
import Derived.Test.YtfceajcfackidaaRd
import Derived.Test.YtfceajcfackidaaPl
import Derived.Test.YtfceajcfackidaaFlA
import Derived.Test.YtfceajcfackidaaFlB
namespace Go.Proofs.Ytfceajcfackidaa
open Go
abbrev few_U : Type := (Ty.list (.prod (.int .i64) (.prod (.int .i64) (.prod (.int .i64) (.prod (.int .i64) (.prod (.int .i64) (.list (.prod (.int .i64) (.int .i64))))))))).den
abbrev few_V : Type := Int × (Ty.list (.prod (.int .i64) (.prod (.int .i64) (.prod (.int .i64) (.prod (.int .i64) (.prod (.int .i64) (.list (.prod (.int .i64) (.int .i64))))))))).den
noncomputable def few_St (u : few_U) (v : few_V) : Stt := ⟨[.one (.d false false (.prod (.int .i64) (.prod (.int .i64) (.prod (.int .i64) (.prod (.int .i64) (.prod (.int .i64) (.list (.prod (.int .i64) (.int .i64)))))))) u), .one .junk, .one (.v false (Value.slice none (0 : Nat) (0 : Nat))), .one (.s false 980 0 (none)), .one (.v false (.int .i64 v.1)), .one .junk, .one .junk, .one .junk, .one .junk, .one .junk, .one .junk, .one .junk, .one .junk, .one .junk, .one .junk, .one .junk, .one .junk, .one .junk, .one .junk, .one .junk, .one .junk, .one .junk, .one .junk, .one .junk, .one .junk, .one .junk, .one .junk, .one .junk, .one .junk, .one .junk, .one .junk, .one .junk, .one .junk], [(980, .row true false false 29 (.prod (.int .i64) (.prod (.int .i64) (.prod (.int .i64) (.prod (.int .i64) (.prod (.int .i64) (.list (.prod (.int .i64) (.int .i64)))))))) v.2)], 1003⟩
def el_iiiiilii (l : (Ty.list (Ty.prod (Ty.int IntKind.i64) (Ty.prod (Ty.int IntKind.i64) (Ty.prod (Ty.int IntKind.i64) (Ty.prod (Ty.int IntKind.i64) (Ty.prod (Ty.int IntKind.i64) (Ty.list (Ty.prod (Ty.int IntKind.i64) (Ty.int IntKind.i64))))))))).den) (i : Int) : (Int × (Int × (Int × (Int × (Int × (List (Int × Int))))))) := elm (Ty.prod (Ty.int IntKind.i64) (Ty.prod (Ty.int IntKind.i64) (Ty.prod (Ty.int IntKind.i64) (Ty.prod (Ty.int IntKind.i64) (Ty.prod (Ty.int IntKind.i64) (Ty.list (Ty.prod (Ty.int IntKind.i64) (Ty.int IntKind.i64)))))))) l i
noncomputable def few_step (u : few_U) (v : few_V) : Tr (few_V ⊕ (Nat × few_V)) :=
  match u, v with
  | q0, (q1, q2) => .br (bif decide (q1 < (↑(List.length q0) : Int)) then decide (q1 < (40 : Int)) else false) (.br (decide ((0 : Int) ≤ q1) && decide (q1 < (↑(List.length q0) : Int))) (.br (decide ((↑(List.length (Prod.snd (Prod.snd (Prod.snd (Prod.snd (Prod.snd (el_iiiiilii q0 q1))))))) : Int) > (200 : Int))) (.br (decide ((0 : Int) ≤ (0 : Int)) && decide ((0 : Int) ≤ (200 : Int)) && decide ((200 : Int) ≤ (↑(List.length (Prod.snd (Prod.snd (Prod.snd (Prod.snd (Prod.snd (el_iiiiilii q0 q1))))))) : Int))) (.br (decide ((List.length q2 + (1 : Nat)) * (64 : Nat) ≤ maxNew) && decide (List.length q2 + (1 : Nat) ≤ maxLen)) (.ret (.inl (IntKind.wrap IntKind.i64 (q1 + (1 : Int)), q2 ++ [(Prod.fst (el_iiiiilii q0 q1), Prod.fst (Prod.snd (el_iiiiilii q0 q1)), Prod.fst (Prod.snd (Prod.snd (el_iiiiilii q0 q1))), Prod.fst (Prod.snd (Prod.snd (Prod.snd (el_iiiiilii q0 q1)))), Prod.fst (Prod.snd (Prod.snd (Prod.snd (Prod.snd (el_iiiiilii q0 q1))))), cutD (Prod.snd (Prod.snd (Prod.snd (Prod.snd (Prod.snd (el_iiiiilii q0 q1)))))) none (some (Operand.const (Value.int IntKind.i64 (200 : Int)))) (0 : Int) (200 : Int))]))) (.bad 71)) (.bad 65)) (.br (decide ((List.length q2 + (1 : Nat)) * (64 : Nat) ≤ maxNew) && decide (List.length q2 + (1 : Nat) ≤ maxLen)) (.ret (.inl (IntKind.wrap IntKind.i64 (q1 + (1 : Int)), q2 ++ [(Prod.fst (el_iiiiilii q0 q1), Prod.fst (Prod.snd (el_iiiiilii q0 q1)), Prod.fst (Prod.snd (Prod.snd (el_iiiiilii q0 q1))), Prod.fst (Prod.snd (Prod.snd (Prod.snd (el_iiiiilii q0 q1)))), Prod.fst (Prod.snd (Prod.snd (Prod.snd (Prod.snd (el_iiiiilii q0 q1))))), Prod.snd (Prod.snd (Prod.snd (Prod.snd (Prod.snd (el_iiiiilii q0 q1))))))]))) (.bad 71))) (.bad 29)) (.ret (.inr (0, (q1, q2))))
set_option maxRecDepth 100000 in
set_option maxHeartbeats 4000000 in
theorem few_step_eq : ∀ (u : few_U) (v : few_V), (evalC Try.prog (evalB Try.prog flB_S62 (opens []) L0 7).1 (evalB Try.prog flB_S62 (opens []) L0 7).2 (opens []) (L0 8) 100000 (0 :: [0, 1, 0, 1, 1]) (loopOf (bodyOf Try.prog 8) [1, 1, 0, 1, 0]) (few_St u v) []).bind (finF [1, 5, 6, 7, 8, 9, 10, 11, 12, 13, 14, 15, 16, 17, 18, 19, 20, 21, 22, 23, 24, 25, 26, 27, 28, 29, 30, 31, 32] [⟨980, some 3, 0, 0, 29, (.prod (.int .i64) (.prod (.int .i64) (.prod (.int .i64) (.prod (.int .i64) (.prod (.int .i64) (.list (.prod (.int .i64) (.int .i64))))))))⟩] [980] [1024, 1029] 1003) = (few_step u v).bind (outA (few_St u) [.exit 0]) := by
  rintro q0 ⟨q1, q2⟩
  kernel_rfl
noncomputable def few_rd (b : Bool) (o0 : Option AV) (o2 : Option AV) (o3 : Option AV) (o4 : Option AV) (own : Own) : Option (few_U × few_V) := zrT b <| zrO o0 fun za1 => zrA1 za1 fun zc2 => zrD (.prod (.int .i64) (.prod (.int .i64) (.prod (.int .i64) (.prod (.int .i64) (.prod (.int .i64) (.list (.prod (.int .i64) (.int .i64)))))))) zc2 fun q0 => zrO o2 fun za3 => zrA1 za3 fun zc4 => zrNil zc4 <| zrO o3 fun za5 => zrA1 za5 fun zc6 => zrSl 980 0 (none) zc6 <| zrO o4 fun za7 => zrA1 za7 fun zc8 => zrI .i64 zc8 fun q1 => zrL own fun zq9 zw10 => zrKey 980 zq9 fun zk11 => zrR true 29 (.prod (.int .i64) (.prod (.int .i64) (.prod (.int .i64) (.prod (.int .i64) (.prod (.int .i64) (.list (.prod (.int .i64) (.int .i64)))))))) zk11 fun q2 => zrN zw10 <| some (q0, (q1, q2))
noncomputable def few_can (st : Stt) : Stt := canA [1, 5, 6, 7, 8, 9, 10, 11, 12, 13, 14, 15, 16, 17, 18, 19, 20, 21, 22, 23, 24, 25, 26, 27, 28, 29, 30, 31, 32] [⟨980, some 3, 0, 0, 29, (.prod (.int .i64) (.prod (.int .i64) (.prod (.int .i64) (.prod (.int .i64) (.prod (.int .i64) (.list (.prod (.int .i64) (.int .i64))))))))⟩] [980] [1024, 1029] 1003 st
noncomputable def few_cok (st : Stt) : Bool := canAok [1, 5, 6, 7, 8, 9, 10, 11, 12, 13, 14, 15, 16, 17, 18, 19, 20, 21, 22, 23, 24, 25, 26, 27, 28, 29, 30, 31, 32] [⟨980, some 3, 0, 0, 29, (.prod (.int .i64) (.prod (.int .i64) (.prod (.int .i64) (.prod (.int .i64) (.prod (.int .i64) (.list (.prod (.int .i64) (.int .i64))))))))⟩] [980] [1024, 1029] 1003 st
noncomputable def few_read (st : Stt) : Option (few_U × few_V) := few_rd (few_cok st && (staysA [⟨980, some 3, 0, 0, 29, (.prod (.int .i64) (.prod (.int .i64) (.prod (.int .i64) (.prod (.int .i64) (.prod (.int .i64) (.list (.prod (.int .i64) (.int .i64))))))))⟩] [980] st.own && juAll [1, 5, 6, 7, 8, 9, 10, 11, 12, 13, 14, 15, 16, 17, 18, 19, 20, 21, 22, 23, 24, 25, 26, 27, 28, 29, 30, 31, 32] (few_can st).tm 33)) (few_can st).tm[0]? (few_can st).tm[2]? (few_can st).tm[3]? (few_can st).tm[4]? (few_can st).own
set_option maxRecDepth 100000 in
set_option maxHeartbeats 4000000 in
theorem few_rd_ok {b : Bool} {tm : List AV} {own : Own} {u : few_U} {v : few_V} (hj : b = true → juAll [1, 5, 6, 7, 8, 9, 10, 11, 12, 13, 14, 15, 16, 17, 18, 19, 20, 21, 22, 23, 24, 25, 26, 27, 28, 29, 30, 31, 32] tm 33 = true) (h : few_rd b tm[0]? tm[2]? tm[3]? tm[4]? own = some (u, v)) : b = true ∧ tm = (few_St u v).tm ∧ own = (few_St u v).own := by
  unfold few_rd at h
  obtain ⟨rfl, h0⟩ := zrT_some h
  obtain ⟨za1, e0, h1⟩ := zrO_some h0
  obtain ⟨zc2, rfl, h2⟩ := zrA1_some h1
  obtain ⟨q0, rfl, h3⟩ := zrD_some h2
  obtain ⟨za3, e2, h4⟩ := zrO_some h3
  obtain ⟨zc4, rfl, h5⟩ := zrA1_some h4
  obtain ⟨rfl, h6⟩ := zrNil_some h5
  obtain ⟨za5, e3, h7⟩ := zrO_some h6
  obtain ⟨zc6, rfl, h8⟩ := zrA1_some h7
  obtain ⟨rfl, h9⟩ := zrSl_some h8
  obtain ⟨za7, e4, h10⟩ := zrO_some h9
  obtain ⟨zc8, rfl, h11⟩ := zrA1_some h10
  obtain ⟨q1, rfl, h12⟩ := zrI_some h11
  obtain ⟨zq9, zw10, rfl, h13⟩ := zrL_some h12
  obtain ⟨zk11, rfl, h14⟩ := zrKey_some h13
  obtain ⟨q2, rfl, h15⟩ := zrR_some h14
  obtain ⟨rfl, h16⟩ := zrN_some h15
  have h := Option.some.inj h16
  have hu := congrArg Prod.fst h
  have hv := congrArg Prod.snd h
  dsimp only at hu hv
  subst hu
  subst hv
  exact ⟨rfl, (tm_fill (hj rfl) (Lv := [(0, .one (.d false false (.prod (.int .i64) (.prod (.int .i64) (.prod (.int .i64) (.prod (.int .i64) (.prod (.int .i64) (.list (.prod (.int .i64) (.int .i64)))))))) q0)), (2, .one (.v false (Value.slice none (0 : Nat) (0 : Nat)))), (3, .one (.s false 980 0 (none))), (4, .one (.v false (.int .i64 q1)))]) (by kernel_rfl) ⟨e0, e2, e3, e4, trivial⟩).trans (by kernel_rfl), rfl⟩
theorem few_read_ok (st : Stt) (u : few_U) (v : few_V) (h : few_read st = some (u, v)) : few_cok st = true ∧ staysA [⟨980, some 3, 0, 0, 29, (.prod (.int .i64) (.prod (.int .i64) (.prod (.int .i64) (.prod (.int .i64) (.prod (.int .i64) (.list (.prod (.int .i64) (.int .i64))))))))⟩] [980] st.own = true ∧ few_can st = few_St u v := by
  obtain ⟨h1, h2, h3⟩ := few_rd_ok (fun hb => by rw [Bool.and_eq_true, Bool.and_eq_true] at hb; exact hb.2.2) h
  rw [Bool.and_eq_true, Bool.and_eq_true] at h1
  refine ⟨h1.1, h1.2.1, ?_⟩
  have e : few_can st = ⟨(few_can st).tm, (few_can st).own, 1003⟩ := by kernel_rfl
  rw [e, h2, h3]
  rfl
noncomputable def few_cond (u : few_U) (v : few_V) : Bool := runC (few_step u) v
noncomputable def few_g (u : few_U) (v : few_V) : Nat × few_V := runG (few_step u) v
theorem few_hg : ∀ (u : few_U) (v : few_V), few_cond u v = true → loopN (few_step u) ((fun u v => runF (few_step u) v) u v) v = some (few_g u v) := by
  exact fun u v h => run_hg h
noncomputable def few_m (st : Stt) : Option (Tr (Ex × Stt)) := sumM few_read few_cond few_St few_g [(0, .exit 0)] st
noncomputable def flC_L61 : FuncId → Loops := addL 8 [0, 1, 0, 1, 1] few_m L0
set_option maxRecDepth 100000 in
set_option maxHeartbeats 4000000 in
theorem flC_L61_ok : LoopsOK Try.prog flC_L61 :=
  loop_sumF (body := (bodyOf Try.prog 8)) (c := (loopOf (bodyOf Try.prog 8) [1, 1, 0, 1, 0])) (kinds := [.exit 0]) (allow := [(0, .exit 0)]) (St := few_St) (step := few_step) (W := [1, 5, 6, 7, 8, 9, 10, 11, 12, 13, 14, 15, 16, 17, 18, 19, 20, 21, 22, 23, 24, 25, 26, 27, 28, 29, 30, 31, 32]) (As := [⟨980, some 3, 0, 0, 29, (.prod (.int .i64) (.prod (.int .i64) (.prod (.int .i64) (.prod (.int .i64) (.prod (.int .i64) (.list (.prod (.int .i64) (.int .i64))))))))⟩]) (ks := [980]) (dd := [1024, 1029]) (nx := 1003) (n := 100000) (g := few_g) (cond := few_cond) (fuel := (fun u v => runF (few_step u) v)) (read := few_read) (by kernel_rfl) (flB_S62_ok) (L0_ok _) 7 ⟨Try.f8, by kernel_rfl, by kernel_rfl⟩ (by kernel_rfl) (by kernel_rfl) (by kernel_rfl) few_step_eq few_hg few_read_ok
abbrev am_U : Type := (Ty.list (.prod (.int .i64) (.prod (.int .i64) (.prod (.int .i64) (.prod (.int .i64) (.prod (.int .i64) (.list (.prod (.int .i64) (.int .i64))))))))).den × Int × Int × Int × Int × Int × Int × Int × Int × Bool × Int × Int × Int × Int × Int × Int × Int × Int × Int × Int × Int × Int
abbrev am_V : Type := Int × Int × Bool × Int × (Ty.list (.int .i64)).den
noncomputable def am_St (u : am_U) (v : am_V) : Stt := ⟨[.one .junk, .one .junk, .one .junk, .one (.p 0 0), .one (.v false (Value.slice none (0 : Nat) (0 : Nat))), .one (.v false (.int .i64 v.1)), .one (.s false 980 0 (none)), .one (.v false (.int .i64 v.2.1)), .one (.v false (.bool v.2.2.1)), .one .junk, .one .junk, .one .junk, .one .junk, .one .junk, .one (.d false false (.prod (.int .i64) (.prod (.int .i64) (.prod (.int .i64) (.prod (.int .i64) (.prod (.int .i64) (.list (.prod (.int .i64) (.int .i64)))))))) u.1), .one (.v false (.int .i64 u.2.1)), .one (.v false (.int .i64 v.2.2.2.1)), .one .junk, .one .junk, .one .junk, .one .junk, .one .junk, .one .junk, .one .junk, .one .junk, .one .junk, .one .junk, .one .junk, .one .junk, .one .junk, .one .junk, .one .junk, .one .junk, .one .junk, .one .junk, .one .junk, .one .junk, .one .junk, .one .junk, .one .junk, .one .junk, .one .junk, .one .junk, .one .junk, .one .junk, .one .junk, .one .junk, .one .junk, .one .junk, .one .junk, .one .junk, .one .junk, .one .junk, .one .junk], [(0, .cells [.v false (.int .i64 u.2.2.1), .v false (.int .i64 u.2.2.2.1), .v false (.int .i64 u.2.2.2.2.1), .v false (.int .i64 u.2.2.2.2.2.1), .v false (.int .i64 u.2.2.2.2.2.2.1), .v false (.int .i64 u.2.2.2.2.2.2.2.1), .v false (.int .i64 u.2.2.2.2.2.2.2.2.1), .v false (.bool u.2.2.2.2.2.2.2.2.2.1), .v false (.int .i64 u.2.2.2.2.2.2.2.2.2.2.1), .v false (.int .i64 u.2.2.2.2.2.2.2.2.2.2.2.1), .v false (.int .i64 u.2.2.2.2.2.2.2.2.2.2.2.2.1), .v false (.int .i64 u.2.2.2.2.2.2.2.2.2.2.2.2.2.1), .v false (.int .i64 u.2.2.2.2.2.2.2.2.2.2.2.2.2.2.1), .v false (.int .i64 u.2.2.2.2.2.2.2.2.2.2.2.2.2.2.2.1), .v false (.int .i64 u.2.2.2.2.2.2.2.2.2.2.2.2.2.2.2.2.1), .v false (.int .i64 u.2.2.2.2.2.2.2.2.2.2.2.2.2.2.2.2.2.1), .v false (.int .i64 u.2.2.2.2.2.2.2.2.2.2.2.2.2.2.2.2.2.2.1), .v false (.int .i64 u.2.2.2.2.2.2.2.2.2.2.2.2.2.2.2.2.2.2.2.1), .v false (.int .i64 u.2.2.2.2.2.2.2.2.2.2.2.2.2.2.2.2.2.2.2.2.1), .v false (.int .i64 u.2.2.2.2.2.2.2.2.2.2.2.2.2.2.2.2.2.2.2.2.2)]), (980, .row true false false 3 (.int .i64) v.2.2.2.2)], 1012⟩
noncomputable def am_step (u : am_U) (v : am_V) : Tr (am_V ⊕ (Nat × am_V)) :=
  match u, v with
  | (q3, q4, q6, q7, q8, q9, q10, q11, q12, q13, q14, q15, q16, q17, q18, q19, q20, q21, q22, q23, q24, q25), (q0, q1, q2, q5, q26) => .br (decide (q5 < q4)) (.br (decide ((0 : Int) ≤ q5) && decide (q5 < (↑(List.length q3) : Int))) (.br (Prod.fst (el_iiiiilii q3 q5) == (3 : Int)) (.br (q2) (.ret (.inr (0, (11, q1, q2, q5, q26)))) (.br (Prod.fst (el_iiiiilii q3 q5) == (3 : Int)) (.br (decide (IntKind.wrap IntKind.i64 (q1 + (↑(List.length (Prod.snd (Prod.snd (Prod.snd (Prod.snd (Prod.snd (el_iiiiilii q3 q5))))))) : Int)) > (1048576 : Int))) (.ret (.inr (0, (2, IntKind.wrap IntKind.i64 (q1 + (↑(List.length (Prod.snd (Prod.snd (Prod.snd (Prod.snd (Prod.snd (el_iiiiilii q3 q5))))))) : Int)), q2, q5, q26)))) (.br (sv q6 q7 q8 q9 q10 q11 q12 q13 q14 q15 q16 q17 q18 q19 q20 q21 q22 q23 q24 q25 && (decide ((0 : Int) ≤ IntKind.wrap IntKind.i64 (q1 + (↑(List.length (Prod.snd (Prod.snd (Prod.snd (Prod.snd (Prod.snd (el_iiiiilii q3 q5))))))) : Int))) && decide (IntKind.wrap IntKind.i64 (q1 + (↑(List.length (Prod.snd (Prod.snd (Prod.snd (Prod.snd (Prod.snd (el_iiiiilii q3 q5))))))) : Int)) ≤ (1048576 : Int)))) (.br (decide ((List.length q26 + (1 : Nat)) * (8 : Nat) ≤ maxNew) && decide (List.length q26 + (1 : Nat) ≤ maxLen)) (.ret (.inl (q0, IntKind.wrap IntKind.i64 (q1 + (↑(List.length (Prod.snd (Prod.snd (Prod.snd (Prod.snd (Prod.snd (el_iiiiilii q3 q5))))))) : Int)), q2, IntKind.wrap IntKind.i64 (q5 + (1 : Int)), q26 ++ [pos q6 q7 q18 q21 (IntKind.wrap IntKind.i64 (q1 + (↑(List.length (Prod.snd (Prod.snd (Prod.snd (Prod.snd (Prod.snd (el_iiiiilii q3 q5))))))) : Int))) q2]))) (.bad 71)) (.bad 900))) (.br (Prod.fst (el_iiiiilii q3 q5) == (4 : Int)) (.br (decide (q1 > (1048576 : Int))) (.ret (.inr (0, (2, q1, true, q5, q26)))) (.br (sv q6 q7 q8 q9 q10 q11 q12 q13 q14 q15 q16 q17 q18 q19 q20 q21 q22 q23 q24 q25 && (decide ((0 : Int) ≤ q1) && decide (q1 ≤ (1048576 : Int)))) (.br (decide ((List.length q26 + (1 : Nat)) * (8 : Nat) ≤ maxNew) && decide (List.length q26 + (1 : Nat) ≤ maxLen)) (.ret (.inl (q0, q1, true, IntKind.wrap IntKind.i64 (q5 + (1 : Int)), q26 ++ [pos q6 q7 q18 q21 q1 true]))) (.bad 71)) (.bad 900))) (.br (Prod.fst (el_iiiiilii q3 q5) == (5 : Int)) (.br (decide (q1 > (1048576 : Int))) (.ret (.inr (0, (2, q1, false, q5, q26)))) (.br (sv q6 q7 q8 q9 q10 q11 q12 q13 q14 q15 q16 q17 q18 q19 q20 q21 q22 q23 q24 q25 && (decide ((0 : Int) ≤ q1) && decide (q1 ≤ (1048576 : Int)))) (.br (decide ((List.length q26 + (1 : Nat)) * (8 : Nat) ≤ maxNew) && decide (List.length q26 + (1 : Nat) ≤ maxLen)) (.ret (.inl (q0, q1, false, IntKind.wrap IntKind.i64 (q5 + (1 : Int)), q26 ++ [pos q6 q7 q18 q21 q1 false]))) (.bad 71)) (.bad 900))) (.br (decide (q1 > (1048576 : Int))) (.ret (.inr (0, (2, q1, q2, q5, q26)))) (.br (sv q6 q7 q8 q9 q10 q11 q12 q13 q14 q15 q16 q17 q18 q19 q20 q21 q22 q23 q24 q25 && (decide ((0 : Int) ≤ q1) && decide (q1 ≤ (1048576 : Int)))) (.br (decide ((List.length q26 + (1 : Nat)) * (8 : Nat) ≤ maxNew) && decide (List.length q26 + (1 : Nat) ≤ maxLen)) (.ret (.inl (q0, q1, q2, IntKind.wrap IntKind.i64 (q5 + (1 : Int)), q26 ++ [pos q6 q7 q18 q21 q1 q2]))) (.bad 71)) (.bad 900))))))) (.br (Prod.fst (el_iiiiilii q3 q5) == (4 : Int)) (.br (q2) (.ret (.inr (0, (11, q1, q2, q5, q26)))) (.br (Prod.fst (el_iiiiilii q3 q5) == (3 : Int)) (.br (decide (IntKind.wrap IntKind.i64 (q1 + (↑(List.length (Prod.snd (Prod.snd (Prod.snd (Prod.snd (Prod.snd (el_iiiiilii q3 q5))))))) : Int)) > (1048576 : Int))) (.ret (.inr (0, (2, IntKind.wrap IntKind.i64 (q1 + (↑(List.length (Prod.snd (Prod.snd (Prod.snd (Prod.snd (Prod.snd (el_iiiiilii q3 q5))))))) : Int)), q2, q5, q26)))) (.br (sv q6 q7 q8 q9 q10 q11 q12 q13 q14 q15 q16 q17 q18 q19 q20 q21 q22 q23 q24 q25 && (decide ((0 : Int) ≤ IntKind.wrap IntKind.i64 (q1 + (↑(List.length (Prod.snd (Prod.snd (Prod.snd (Prod.snd (Prod.snd (el_iiiiilii q3 q5))))))) : Int))) && decide (IntKind.wrap IntKind.i64 (q1 + (↑(List.length (Prod.snd (Prod.snd (Prod.snd (Prod.snd (Prod.snd (el_iiiiilii q3 q5))))))) : Int)) ≤ (1048576 : Int)))) (.br (decide ((List.length q26 + (1 : Nat)) * (8 : Nat) ≤ maxNew) && decide (List.length q26 + (1 : Nat) ≤ maxLen)) (.ret (.inl (q0, IntKind.wrap IntKind.i64 (q1 + (↑(List.length (Prod.snd (Prod.snd (Prod.snd (Prod.snd (Prod.snd (el_iiiiilii q3 q5))))))) : Int)), q2, IntKind.wrap IntKind.i64 (q5 + (1 : Int)), q26 ++ [pos q6 q7 q18 q21 (IntKind.wrap IntKind.i64 (q1 + (↑(List.length (Prod.snd (Prod.snd (Prod.snd (Prod.snd (Prod.snd (el_iiiiilii q3 q5))))))) : Int))) q2]))) (.bad 71)) (.bad 900))) (.br (Prod.fst (el_iiiiilii q3 q5) == (4 : Int)) (.br (decide (q1 > (1048576 : Int))) (.ret (.inr (0, (2, q1, true, q5, q26)))) (.br (sv q6 q7 q8 q9 q10 q11 q12 q13 q14 q15 q16 q17 q18 q19 q20 q21 q22 q23 q24 q25 && (decide ((0 : Int) ≤ q1) && decide (q1 ≤ (1048576 : Int)))) (.br (decide ((List.length q26 + (1 : Nat)) * (8 : Nat) ≤ maxNew) && decide (List.length q26 + (1 : Nat) ≤ maxLen)) (.ret (.inl (q0, q1, true, IntKind.wrap IntKind.i64 (q5 + (1 : Int)), q26 ++ [pos q6 q7 q18 q21 q1 true]))) (.bad 71)) (.bad 900))) (.br (Prod.fst (el_iiiiilii q3 q5) == (5 : Int)) (.br (decide (q1 > (1048576 : Int))) (.ret (.inr (0, (2, q1, false, q5, q26)))) (.br (sv q6 q7 q8 q9 q10 q11 q12 q13 q14 q15 q16 q17 q18 q19 q20 q21 q22 q23 q24 q25 && (decide ((0 : Int) ≤ q1) && decide (q1 ≤ (1048576 : Int)))) (.br (decide ((List.length q26 + (1 : Nat)) * (8 : Nat) ≤ maxNew) && decide (List.length q26 + (1 : Nat) ≤ maxLen)) (.ret (.inl (q0, q1, false, IntKind.wrap IntKind.i64 (q5 + (1 : Int)), q26 ++ [pos q6 q7 q18 q21 q1 false]))) (.bad 71)) (.bad 900))) (.br (decide (q1 > (1048576 : Int))) (.ret (.inr (0, (2, q1, q2, q5, q26)))) (.br (sv q6 q7 q8 q9 q10 q11 q12 q13 q14 q15 q16 q17 q18 q19 q20 q21 q22 q23 q24 q25 && (decide ((0 : Int) ≤ q1) && decide (q1 ≤ (1048576 : Int)))) (.br (decide ((List.length q26 + (1 : Nat)) * (8 : Nat) ≤ maxNew) && decide (List.length q26 + (1 : Nat) ≤ maxLen)) (.ret (.inl (q0, q1, q2, IntKind.wrap IntKind.i64 (q5 + (1 : Int)), q26 ++ [pos q6 q7 q18 q21 q1 q2]))) (.bad 71)) (.bad 900))))))) (.br (Prod.fst (el_iiiiilii q3 q5) == (5 : Int)) (.br (!q2) (.ret (.inr (0, (11, q1, q2, q5, q26)))) (.br (Prod.fst (el_iiiiilii q3 q5) == (3 : Int)) (.br (decide (IntKind.wrap IntKind.i64 (q1 + (↑(List.length (Prod.snd (Prod.snd (Prod.snd (Prod.snd (Prod.snd (el_iiiiilii q3 q5))))))) : Int)) > (1048576 : Int))) (.ret (.inr (0, (2, IntKind.wrap IntKind.i64 (q1 + (↑(List.length (Prod.snd (Prod.snd (Prod.snd (Prod.snd (Prod.snd (el_iiiiilii q3 q5))))))) : Int)), q2, q5, q26)))) (.br (sv q6 q7 q8 q9 q10 q11 q12 q13 q14 q15 q16 q17 q18 q19 q20 q21 q22 q23 q24 q25 && (decide ((0 : Int) ≤ IntKind.wrap IntKind.i64 (q1 + (↑(List.length (Prod.snd (Prod.snd (Prod.snd (Prod.snd (Prod.snd (el_iiiiilii q3 q5))))))) : Int))) && decide (IntKind.wrap IntKind.i64 (q1 + (↑(List.length (Prod.snd (Prod.snd (Prod.snd (Prod.snd (Prod.snd (el_iiiiilii q3 q5))))))) : Int)) ≤ (1048576 : Int)))) (.br (decide ((List.length q26 + (1 : Nat)) * (8 : Nat) ≤ maxNew) && decide (List.length q26 + (1 : Nat) ≤ maxLen)) (.ret (.inl (q0, IntKind.wrap IntKind.i64 (q1 + (↑(List.length (Prod.snd (Prod.snd (Prod.snd (Prod.snd (Prod.snd (el_iiiiilii q3 q5))))))) : Int)), q2, IntKind.wrap IntKind.i64 (q5 + (1 : Int)), q26 ++ [pos q6 q7 q18 q21 (IntKind.wrap IntKind.i64 (q1 + (↑(List.length (Prod.snd (Prod.snd (Prod.snd (Prod.snd (Prod.snd (el_iiiiilii q3 q5))))))) : Int))) q2]))) (.bad 71)) (.bad 900))) (.br (Prod.fst (el_iiiiilii q3 q5) == (4 : Int)) (.br (decide (q1 > (1048576 : Int))) (.ret (.inr (0, (2, q1, true, q5, q26)))) (.br (sv q6 q7 q8 q9 q10 q11 q12 q13 q14 q15 q16 q17 q18 q19 q20 q21 q22 q23 q24 q25 && (decide ((0 : Int) ≤ q1) && decide (q1 ≤ (1048576 : Int)))) (.br (decide ((List.length q26 + (1 : Nat)) * (8 : Nat) ≤ maxNew) && decide (List.length q26 + (1 : Nat) ≤ maxLen)) (.ret (.inl (q0, q1, true, IntKind.wrap IntKind.i64 (q5 + (1 : Int)), q26 ++ [pos q6 q7 q18 q21 q1 true]))) (.bad 71)) (.bad 900))) (.br (Prod.fst (el_iiiiilii q3 q5) == (5 : Int)) (.br (decide (q1 > (1048576 : Int))) (.ret (.inr (0, (2, q1, false, q5, q26)))) (.br (sv q6 q7 q8 q9 q10 q11 q12 q13 q14 q15 q16 q17 q18 q19 q20 q21 q22 q23 q24 q25 && (decide ((0 : Int) ≤ q1) && decide (q1 ≤ (1048576 : Int)))) (.br (decide ((List.length q26 + (1 : Nat)) * (8 : Nat) ≤ maxNew) && decide (List.length q26 + (1 : Nat) ≤ maxLen)) (.ret (.inl (q0, q1, false, IntKind.wrap IntKind.i64 (q5 + (1 : Int)), q26 ++ [pos q6 q7 q18 q21 q1 false]))) (.bad 71)) (.bad 900))) (.br (decide (q1 > (1048576 : Int))) (.ret (.inr (0, (2, q1, q2, q5, q26)))) (.br (sv q6 q7 q8 q9 q10 q11 q12 q13 q14 q15 q16 q17 q18 q19 q20 q21 q22 q23 q24 q25 && (decide ((0 : Int) ≤ q1) && decide (q1 ≤ (1048576 : Int)))) (.br (decide ((List.length q26 + (1 : Nat)) * (8 : Nat) ≤ maxNew) && decide (List.length q26 + (1 : Nat) ≤ maxLen)) (.ret (.inl (q0, q1, q2, IntKind.wrap IntKind.i64 (q5 + (1 : Int)), q26 ++ [pos q6 q7 q18 q21 q1 q2]))) (.bad 71)) (.bad 900))))))) (.br (Prod.fst (el_iiiiilii q3 q5) == (3 : Int)) (.br (decide (IntKind.wrap IntKind.i64 (q1 + (↑(List.length (Prod.snd (Prod.snd (Prod.snd (Prod.snd (Prod.snd (el_iiiiilii q3 q5))))))) : Int)) > (1048576 : Int))) (.ret (.inr (0, (2, IntKind.wrap IntKind.i64 (q1 + (↑(List.length (Prod.snd (Prod.snd (Prod.snd (Prod.snd (Prod.snd (el_iiiiilii q3 q5))))))) : Int)), q2, q5, q26)))) (.br (sv q6 q7 q8 q9 q10 q11 q12 q13 q14 q15 q16 q17 q18 q19 q20 q21 q22 q23 q24 q25 && (decide ((0 : Int) ≤ IntKind.wrap IntKind.i64 (q1 + (↑(List.length (Prod.snd (Prod.snd (Prod.snd (Prod.snd (Prod.snd (el_iiiiilii q3 q5))))))) : Int))) && decide (IntKind.wrap IntKind.i64 (q1 + (↑(List.length (Prod.snd (Prod.snd (Prod.snd (Prod.snd (Prod.snd (el_iiiiilii q3 q5))))))) : Int)) ≤ (1048576 : Int)))) (.br (decide ((List.length q26 + (1 : Nat)) * (8 : Nat) ≤ maxNew) && decide (List.length q26 + (1 : Nat) ≤ maxLen)) (.ret (.inl (q0, IntKind.wrap IntKind.i64 (q1 + (↑(List.length (Prod.snd (Prod.snd (Prod.snd (Prod.snd (Prod.snd (el_iiiiilii q3 q5))))))) : Int)), q2, IntKind.wrap IntKind.i64 (q5 + (1 : Int)), q26 ++ [pos q6 q7 q18 q21 (IntKind.wrap IntKind.i64 (q1 + (↑(List.length (Prod.snd (Prod.snd (Prod.snd (Prod.snd (Prod.snd (el_iiiiilii q3 q5))))))) : Int))) q2]))) (.bad 71)) (.bad 900))) (.br (Prod.fst (el_iiiiilii q3 q5) == (4 : Int)) (.br (decide (q1 > (1048576 : Int))) (.ret (.inr (0, (2, q1, true, q5, q26)))) (.br (sv q6 q7 q8 q9 q10 q11 q12 q13 q14 q15 q16 q17 q18 q19 q20 q21 q22 q23 q24 q25 && (decide ((0 : Int) ≤ q1) && decide (q1 ≤ (1048576 : Int)))) (.br (decide ((List.length q26 + (1 : Nat)) * (8 : Nat) ≤ maxNew) && decide (List.length q26 + (1 : Nat) ≤ maxLen)) (.ret (.inl (q0, q1, true, IntKind.wrap IntKind.i64 (q5 + (1 : Int)), q26 ++ [pos q6 q7 q18 q21 q1 true]))) (.bad 71)) (.bad 900))) (.br (Prod.fst (el_iiiiilii q3 q5) == (5 : Int)) (.br (decide (q1 > (1048576 : Int))) (.ret (.inr (0, (2, q1, false, q5, q26)))) (.br (sv q6 q7 q8 q9 q10 q11 q12 q13 q14 q15 q16 q17 q18 q19 q20 q21 q22 q23 q24 q25 && (decide ((0 : Int) ≤ q1) && decide (q1 ≤ (1048576 : Int)))) (.br (decide ((List.length q26 + (1 : Nat)) * (8 : Nat) ≤ maxNew) && decide (List.length q26 + (1 : Nat) ≤ maxLen)) (.ret (.inl (q0, q1, false, IntKind.wrap IntKind.i64 (q5 + (1 : Int)), q26 ++ [pos q6 q7 q18 q21 q1 false]))) (.bad 71)) (.bad 900))) (.br (decide (q1 > (1048576 : Int))) (.ret (.inr (0, (2, q1, q2, q5, q26)))) (.br (sv q6 q7 q8 q9 q10 q11 q12 q13 q14 q15 q16 q17 q18 q19 q20 q21 q22 q23 q24 q25 && (decide ((0 : Int) ≤ q1) && decide (q1 ≤ (1048576 : Int)))) (.br (decide ((List.length q26 + (1 : Nat)) * (8 : Nat) ≤ maxNew) && decide (List.length q26 + (1 : Nat) ≤ maxLen)) (.ret (.inl (q0, q1, q2, IntKind.wrap IntKind.i64 (q5 + (1 : Int)), q26 ++ [pos q6 q7 q18 q21 q1 q2]))) (.bad 71)) (.bad 900))))))))) (.bad 29)) (.ret (.inr (1, (q0, q1, q2, q5, q26))))
set_option maxRecDepth 100000 in
set_option maxHeartbeats 4000000 in
theorem am_step_eq : ∀ (u : am_U) (v : am_V), (evalC Try.prog (evalB Try.prog flB_S62 (opens []) flC_L61 7).1 (evalB Try.prog flB_S62 (opens []) flC_L61 7).2 (opens []) (flC_L61 7) 100000 (0 :: [0, 1, 0, 1, 1, 1, 1]) (loopOf (bodyOf Try.prog 7) [1, 1, 1, 1, 0, 1, 0]) (am_St u v) []).bind (finF [0, 1, 2, 9, 10, 11, 12, 13, 17, 18, 19, 20, 21, 22, 23, 24, 25, 26, 27, 28, 29, 30, 31, 32, 33, 34, 35, 36, 37, 38, 39, 40, 41, 42, 43, 44, 45, 46, 47, 48, 49, 50, 51, 52, 53] [⟨980, some 6, 0, 0, 3, (.int .i64)⟩] [0, 980] [1037, 1038, 1039, 1040, 1041, 1042, 1043, 1044, 1045] 1012) = (am_step u v).bind (outA (am_St u) [.ret, .exit 0]) := by
  rintro ⟨q3, q4, q6, q7, q8, q9, q10, q11, q12, q13, q14, q15, q16, q17, q18, q19, q20, q21, q22, q23, q24, q25⟩ ⟨q0, q1, q2, q5, q26⟩
  kernel_rfl
noncomputable def am_rd (b : Bool) (o3 : Option AV) (o4 : Option AV) (o5 : Option AV) (o6 : Option AV) (o7 : Option AV) (o8 : Option AV) (o14 : Option AV) (o15 : Option AV) (o16 : Option AV) (own : Own) : Option (am_U × am_V) := zrT b <| zrO o3 fun za1 => zrA1 za1 fun zc2 => zrP 0 0 zc2 <| zrO o4 fun za3 => zrA1 za3 fun zc4 => zrNil zc4 <| zrO o5 fun za5 => zrA1 za5 fun zc6 => zrI .i64 zc6 fun q0 => zrO o6 fun za7 => zrA1 za7 fun zc8 => zrSl 980 0 (none) zc8 <| zrO o7 fun za9 => zrA1 za9 fun zc10 => zrI .i64 zc10 fun q1 => zrO o8 fun za11 => zrA1 za11 fun zc12 => zrB zc12 fun q2 => zrO o14 fun za13 => zrA1 za13 fun zc14 => zrD (.prod (.int .i64) (.prod (.int .i64) (.prod (.int .i64) (.prod (.int .i64) (.prod (.int .i64) (.list (.prod (.int .i64) (.int .i64)))))))) zc14 fun q3 => zrO o15 fun za15 => zrA1 za15 fun zc16 => zrI .i64 zc16 fun q4 => zrO o16 fun za17 => zrA1 za17 fun zc18 => zrI .i64 zc18 fun q5 => zrL own fun zq19 zw20 => zrKey 0 zq19 fun zk21 => zrC zk21 fun zl22 => zrL zl22 fun zc23 zr24 => zrI .i64 zc23 fun q6 => zrL zr24 fun zc25 zr26 => zrI .i64 zc25 fun q7 => zrL zr26 fun zc27 zr28 => zrI .i64 zc27 fun q8 => zrL zr28 fun zc29 zr30 => zrI .i64 zc29 fun q9 => zrL zr30 fun zc31 zr32 => zrI .i64 zc31 fun q10 => zrL zr32 fun zc33 zr34 => zrI .i64 zc33 fun q11 => zrL zr34 fun zc35 zr36 => zrI .i64 zc35 fun q12 => zrL zr36 fun zc37 zr38 => zrB zc37 fun q13 => zrL zr38 fun zc39 zr40 => zrI .i64 zc39 fun q14 => zrL zr40 fun zc41 zr42 => zrI .i64 zc41 fun q15 => zrL zr42 fun zc43 zr44 => zrI .i64 zc43 fun q16 => zrL zr44 fun zc45 zr46 => zrI .i64 zc45 fun q17 => zrL zr46 fun zc47 zr48 => zrI .i64 zc47 fun q18 => zrL zr48 fun zc49 zr50 => zrI .i64 zc49 fun q19 => zrL zr50 fun zc51 zr52 => zrI .i64 zc51 fun q20 => zrL zr52 fun zc53 zr54 => zrI .i64 zc53 fun q21 => zrL zr54 fun zc55 zr56 => zrI .i64 zc55 fun q22 => zrL zr56 fun zc57 zr58 => zrI .i64 zc57 fun q23 => zrL zr58 fun zc59 zr60 => zrI .i64 zc59 fun q24 => zrL zr60 fun zc61 zr62 => zrI .i64 zc61 fun q25 => zrN zr62 <| zrL zw20 fun zq63 zw64 => zrKey 980 zq63 fun zk65 => zrR true 3 (.int .i64) zk65 fun q26 => zrN zw64 <| some ((q3, q4, q6, q7, q8, q9, q10, q11, q12, q13, q14, q15, q16, q17, q18, q19, q20, q21, q22, q23, q24, q25), (q0, q1, q2, q5, q26))
noncomputable def am_can (st : Stt) : Stt := canA [0, 1, 2, 9, 10, 11, 12, 13, 17, 18, 19, 20, 21, 22, 23, 24, 25, 26, 27, 28, 29, 30, 31, 32, 33, 34, 35, 36, 37, 38, 39, 40, 41, 42, 43, 44, 45, 46, 47, 48, 49, 50, 51, 52, 53] [⟨980, some 6, 0, 0, 3, (.int .i64)⟩] [0, 980] [1037, 1038, 1039, 1040, 1041, 1042, 1043, 1044, 1045] 1012 st
noncomputable def am_cok (st : Stt) : Bool := canAok [0, 1, 2, 9, 10, 11, 12, 13, 17, 18, 19, 20, 21, 22, 23, 24, 25, 26, 27, 28, 29, 30, 31, 32, 33, 34, 35, 36, 37, 38, 39, 40, 41, 42, 43, 44, 45, 46, 47, 48, 49, 50, 51, 52, 53] [⟨980, some 6, 0, 0, 3, (.int .i64)⟩] [0, 980] [1037, 1038, 1039, 1040, 1041, 1042, 1043, 1044, 1045] 1012 st
noncomputable def am_read (st : Stt) : Option (am_U × am_V) := am_rd (am_cok st && (staysA [⟨980, some 6, 0, 0, 3, (.int .i64)⟩] [0, 980] st.own && juAll [0, 1, 2, 9, 10, 11, 12, 13, 17, 18, 19, 20, 21, 22, 23, 24, 25, 26, 27, 28, 29, 30, 31, 32, 33, 34, 35, 36, 37, 38, 39, 40, 41, 42, 43, 44, 45, 46, 47, 48, 49, 50, 51, 52, 53] (am_can st).tm 54)) (am_can st).tm[3]? (am_can st).tm[4]? (am_can st).tm[5]? (am_can st).tm[6]? (am_can st).tm[7]? (am_can st).tm[8]? (am_can st).tm[14]? (am_can st).tm[15]? (am_can st).tm[16]? (am_can st).own
set_option maxRecDepth 100000 in
set_option maxHeartbeats 4000000 in
theorem am_rd_ok {b : Bool} {tm : List AV} {own : Own} {u : am_U} {v : am_V} (hj : b = true → juAll [0, 1, 2, 9, 10, 11, 12, 13, 17, 18, 19, 20, 21, 22, 23, 24, 25, 26, 27, 28, 29, 30, 31, 32, 33, 34, 35, 36, 37, 38, 39, 40, 41, 42, 43, 44, 45, 46, 47, 48, 49, 50, 51, 52, 53] tm 54 = true) (h : am_rd b tm[3]? tm[4]? tm[5]? tm[6]? tm[7]? tm[8]? tm[14]? tm[15]? tm[16]? own = some (u, v)) : b = true ∧ tm = (am_St u v).tm ∧ own = (am_St u v).own := by
  unfold am_rd at h
  obtain ⟨rfl, h0⟩ := zrT_some h
  obtain ⟨za1, e3, h1⟩ := zrO_some h0
  obtain ⟨zc2, rfl, h2⟩ := zrA1_some h1
  obtain ⟨rfl, h3⟩ := zrP_some h2
  obtain ⟨za3, e4, h4⟩ := zrO_some h3
  obtain ⟨zc4, rfl, h5⟩ := zrA1_some h4
  obtain ⟨rfl, h6⟩ := zrNil_some h5
  obtain ⟨za5, e5, h7⟩ := zrO_some h6
  obtain ⟨zc6, rfl, h8⟩ := zrA1_some h7
  obtain ⟨q0, rfl, h9⟩ := zrI_some h8
  obtain ⟨za7, e6, h10⟩ := zrO_some h9
  obtain ⟨zc8, rfl, h11⟩ := zrA1_some h10
  obtain ⟨rfl, h12⟩ := zrSl_some h11
  obtain ⟨za9, e7, h13⟩ := zrO_some h12
  obtain ⟨zc10, rfl, h14⟩ := zrA1_some h13
  obtain ⟨q1, rfl, h15⟩ := zrI_some h14
  obtain ⟨za11, e8, h16⟩ := zrO_some h15
  obtain ⟨zc12, rfl, h17⟩ := zrA1_some h16
  obtain ⟨q2, rfl, h18⟩ := zrB_some h17
  obtain ⟨za13, e14, h19⟩ := zrO_some h18
  obtain ⟨zc14, rfl, h20⟩ := zrA1_some h19
  obtain ⟨q3, rfl, h21⟩ := zrD_some h20
  obtain ⟨za15, e15, h22⟩ := zrO_some h21
  obtain ⟨zc16, rfl, h23⟩ := zrA1_some h22
  obtain ⟨q4, rfl, h24⟩ := zrI_some h23
  obtain ⟨za17, e16, h25⟩ := zrO_some h24
  obtain ⟨zc18, rfl, h26⟩ := zrA1_some h25
  obtain ⟨q5, rfl, h27⟩ := zrI_some h26
  obtain ⟨zq19, zw20, rfl, h28⟩ := zrL_some h27
  obtain ⟨zk21, rfl, h29⟩ := zrKey_some h28
  obtain ⟨zl22, rfl, h30⟩ := zrC_some h29
  obtain ⟨zc23, zr24, rfl, h31⟩ := zrL_some h30
  obtain ⟨q6, rfl, h32⟩ := zrI_some h31
  obtain ⟨zc25, zr26, rfl, h33⟩ := zrL_some h32
  obtain ⟨q7, rfl, h34⟩ := zrI_some h33
  obtain ⟨zc27, zr28, rfl, h35⟩ := zrL_some h34
  obtain ⟨q8, rfl, h36⟩ := zrI_some h35
  obtain ⟨zc29, zr30, rfl, h37⟩ := zrL_some h36
  obtain ⟨q9, rfl, h38⟩ := zrI_some h37
  obtain ⟨zc31, zr32, rfl, h39⟩ := zrL_some h38
  obtain ⟨q10, rfl, h40⟩ := zrI_some h39
  obtain ⟨zc33, zr34, rfl, h41⟩ := zrL_some h40
  obtain ⟨q11, rfl, h42⟩ := zrI_some h41
  obtain ⟨zc35, zr36, rfl, h43⟩ := zrL_some h42
  obtain ⟨q12, rfl, h44⟩ := zrI_some h43
  obtain ⟨zc37, zr38, rfl, h45⟩ := zrL_some h44
  obtain ⟨q13, rfl, h46⟩ := zrB_some h45
  obtain ⟨zc39, zr40, rfl, h47⟩ := zrL_some h46
  obtain ⟨q14, rfl, h48⟩ := zrI_some h47
  obtain ⟨zc41, zr42, rfl, h49⟩ := zrL_some h48
  obtain ⟨q15, rfl, h50⟩ := zrI_some h49
  obtain ⟨zc43, zr44, rfl, h51⟩ := zrL_some h50
  obtain ⟨q16, rfl, h52⟩ := zrI_some h51
  obtain ⟨zc45, zr46, rfl, h53⟩ := zrL_some h52
  obtain ⟨q17, rfl, h54⟩ := zrI_some h53
  obtain ⟨zc47, zr48, rfl, h55⟩ := zrL_some h54
  obtain ⟨q18, rfl, h56⟩ := zrI_some h55
  obtain ⟨zc49, zr50, rfl, h57⟩ := zrL_some h56
  obtain ⟨q19, rfl, h58⟩ := zrI_some h57
  obtain ⟨zc51, zr52, rfl, h59⟩ := zrL_some h58
  obtain ⟨q20, rfl, h60⟩ := zrI_some h59
  obtain ⟨zc53, zr54, rfl, h61⟩ := zrL_some h60
  obtain ⟨q21, rfl, h62⟩ := zrI_some h61
  obtain ⟨zc55, zr56, rfl, h63⟩ := zrL_some h62
  obtain ⟨q22, rfl, h64⟩ := zrI_some h63
  obtain ⟨zc57, zr58, rfl, h65⟩ := zrL_some h64
  obtain ⟨q23, rfl, h66⟩ := zrI_some h65
  obtain ⟨zc59, zr60, rfl, h67⟩ := zrL_some h66
  obtain ⟨q24, rfl, h68⟩ := zrI_some h67
  obtain ⟨zc61, zr62, rfl, h69⟩ := zrL_some h68
  obtain ⟨q25, rfl, h70⟩ := zrI_some h69
  obtain ⟨rfl, h71⟩ := zrN_some h70
  obtain ⟨zq63, zw64, rfl, h72⟩ := zrL_some h71
  obtain ⟨zk65, rfl, h73⟩ := zrKey_some h72
  obtain ⟨q26, rfl, h74⟩ := zrR_some h73
  obtain ⟨rfl, h75⟩ := zrN_some h74
  have h := Option.some.inj h75
  have hu := congrArg Prod.fst h
  have hv := congrArg Prod.snd h
  dsimp only at hu hv
  subst hu
  subst hv
  exact ⟨rfl, (tm_fill (hj rfl) (Lv := [(3, .one (.p 0 0)), (4, .one (.v false (Value.slice none (0 : Nat) (0 : Nat)))), (5, .one (.v false (.int .i64 q0))), (6, .one (.s false 980 0 (none))), (7, .one (.v false (.int .i64 q1))), (8, .one (.v false (.bool q2))), (14, .one (.d false false (.prod (.int .i64) (.prod (.int .i64) (.prod (.int .i64) (.prod (.int .i64) (.prod (.int .i64) (.list (.prod (.int .i64) (.int .i64)))))))) q3)), (15, .one (.v false (.int .i64 q4))), (16, .one (.v false (.int .i64 q5)))]) (by kernel_rfl) ⟨e3, e4, e5, e6, e7, e8, e14, e15, e16, trivial⟩).trans (by kernel_rfl), rfl⟩
theorem am_read_ok (st : Stt) (u : am_U) (v : am_V) (h : am_read st = some (u, v)) : am_cok st = true ∧ staysA [⟨980, some 6, 0, 0, 3, (.int .i64)⟩] [0, 980] st.own = true ∧ am_can st = am_St u v := by
  obtain ⟨h1, h2, h3⟩ := am_rd_ok (fun hb => by rw [Bool.and_eq_true, Bool.and_eq_true] at hb; exact hb.2.2) h
  rw [Bool.and_eq_true, Bool.and_eq_true] at h1
  refine ⟨h1.1, h1.2.1, ?_⟩
  have e : am_can st = ⟨(am_can st).tm, (am_can st).own, 1012⟩ := by kernel_rfl
  rw [e, h2, h3]
  rfl
noncomputable def am_cond (u : am_U) (v : am_V) : Bool := runC (am_step u) v
noncomputable def am_g (u : am_U) (v : am_V) : Nat × am_V := runG (am_step u) v
theorem am_hg : ∀ (u : am_U) (v : am_V), am_cond u v = true → loopN (am_step u) ((fun u v => runF (am_step u) v) u v) v = some (am_g u v) := by
  exact fun u v h => run_hg h
noncomputable def am_m (st : Stt) : Option (Tr (Ex × Stt)) := sumM am_read am_cond am_St am_g [(0, .ret), (1, .exit 0)] st
noncomputable def flC_L62 : FuncId → Loops := addL 7 [0, 1, 0, 1, 1, 1, 1] am_m flC_L61
set_option maxRecDepth 100000 in
set_option maxHeartbeats 4000000 in
theorem flC_L62_ok : LoopsOK Try.prog flC_L62 :=
  loop_sumF (body := (bodyOf Try.prog 7)) (c := (loopOf (bodyOf Try.prog 7) [1, 1, 1, 1, 0, 1, 0])) (kinds := [.ret, .exit 0]) (allow := [(0, .ret), (1, .exit 0)]) (St := am_St) (step := am_step) (W := [0, 1, 2, 9, 10, 11, 12, 13, 17, 18, 19, 20, 21, 22, 23, 24, 25, 26, 27, 28, 29, 30, 31, 32, 33, 34, 35, 36, 37, 38, 39, 40, 41, 42, 43, 44, 45, 46, 47, 48, 49, 50, 51, 52, 53]) (As := [⟨980, some 6, 0, 0, 3, (.int .i64)⟩]) (ks := [0, 980]) (dd := [1037, 1038, 1039, 1040, 1041, 1042, 1043, 1044, 1045]) (nx := 1012) (n := 100000) (g := am_g) (cond := am_cond) (fuel := (fun u v => runF (am_step u) v)) (read := am_read) (by kernel_rfl) (flB_S62_ok) (flC_L61_ok) 7 ⟨Try.f7, by kernel_rfl, by kernel_rfl⟩ (by kernel_rfl) (by kernel_rfl) (by kernel_rfl) am_step_eq am_hg am_read_ok
abbrev sam_U : Type := (Ty.list (.int .i64)).den × (Ty.list (.int .i64)).den
abbrev sam_V : Type := Bool × Int
noncomputable def sam_St (u : sam_U) (v : sam_V) : Stt := ⟨[.one (.d false false (.int .i64) u.1), .one (.d false false (.int .i64) u.2), .one .junk, .one .junk, .one (.v false (.bool v.1)), .one (.v false (.int .i64 v.2)), .one .junk, .one .junk, .one .junk, .one .junk, .one .junk, .one .junk, .one .junk, .one .junk, .one .junk, .one .junk, .one .junk, .one .junk, .one .junk, .one .junk, .one .junk, .one .junk, .one .junk, .one .junk, .one .junk, .one .junk], [], 1007⟩
def el_i (l : (Ty.list (Ty.int IntKind.i64)).den) (i : Int) : Int := elm (Ty.int IntKind.i64) l i
noncomputable def sam_step (u : sam_U) (v : sam_V) : Tr (sam_V ⊕ (Nat × sam_V)) :=
  match u, v with
  | (q0, q1), (q2, q3) => .br (decide (q3 < (↑(List.length q0) : Int))) (.br (decide ((0 : Int) ≤ q3) && decide (q3 < (↑(List.length q0) : Int))) (.br (decide ((0 : Int) ≤ q3) && decide (q3 < (↑(List.length q1) : Int))) (.br (el_i q0 q3 != el_i q1 q3) (.ret (.inr (0, (false, q3)))) (.ret (.inl (q2, IntKind.wrap IntKind.i64 (q3 + (1 : Int)))))) (.bad 29)) (.bad 29)) (.ret (.inr (1, (q2, q3))))
set_option maxRecDepth 100000 in
set_option maxHeartbeats 4000000 in
theorem sam_step_eq : ∀ (u : sam_U) (v : sam_V), (evalC Try.prog (evalB Try.prog flB_S62 (opens []) flC_L62 7).1 (evalB Try.prog flB_S62 (opens []) flC_L62 7).2 (opens []) (flC_L62 9) 100000 (0 :: [0, 1, 0, 1, 1]) (loopOf (bodyOf Try.prog 9) [1, 1, 0, 1, 0]) (sam_St u v) []).bind (finF [2, 3, 6, 7, 8, 9, 10, 11, 12, 13, 14, 15, 16, 17, 18, 19, 20, 21, 22, 23, 24, 25] [] [] [] 1007) = (sam_step u v).bind (outA (sam_St u) [.ret, .exit 0]) := by
  rintro ⟨q0, q1⟩ ⟨q2, q3⟩
  kernel_rfl
noncomputable def sam_rd (b : Bool) (o0 : Option AV) (o1 : Option AV) (o4 : Option AV) (o5 : Option AV) (own : Own) : Option (sam_U × sam_V) := zrT b <| zrO o0 fun za1 => zrA1 za1 fun zc2 => zrD (.int .i64) zc2 fun q0 => zrO o1 fun za3 => zrA1 za3 fun zc4 => zrD (.int .i64) zc4 fun q1 => zrO o4 fun za5 => zrA1 za5 fun zc6 => zrB zc6 fun q2 => zrO o5 fun za7 => zrA1 za7 fun zc8 => zrI .i64 zc8 fun q3 => zrN own <| some ((q0, q1), (q2, q3))
noncomputable def sam_can (st : Stt) : Stt := canA [2, 3, 6, 7, 8, 9, 10, 11, 12, 13, 14, 15, 16, 17, 18, 19, 20, 21, 22, 23, 24, 25] [] [] [] 1007 st
noncomputable def sam_cok (st : Stt) : Bool := canAok [2, 3, 6, 7, 8, 9, 10, 11, 12, 13, 14, 15, 16, 17, 18, 19, 20, 21, 22, 23, 24, 25] [] [] [] 1007 st
noncomputable def sam_read (st : Stt) : Option (sam_U × sam_V) := sam_rd (sam_cok st && (staysA [] [] st.own && juAll [2, 3, 6, 7, 8, 9, 10, 11, 12, 13, 14, 15, 16, 17, 18, 19, 20, 21, 22, 23, 24, 25] (sam_can st).tm 26)) (sam_can st).tm[0]? (sam_can st).tm[1]? (sam_can st).tm[4]? (sam_can st).tm[5]? (sam_can st).own
set_option maxRecDepth 100000 in
set_option maxHeartbeats 4000000 in
theorem sam_rd_ok {b : Bool} {tm : List AV} {own : Own} {u : sam_U} {v : sam_V} (hj : b = true → juAll [2, 3, 6, 7, 8, 9, 10, 11, 12, 13, 14, 15, 16, 17, 18, 19, 20, 21, 22, 23, 24, 25] tm 26 = true) (h : sam_rd b tm[0]? tm[1]? tm[4]? tm[5]? own = some (u, v)) : b = true ∧ tm = (sam_St u v).tm ∧ own = (sam_St u v).own := by
  unfold sam_rd at h
  obtain ⟨rfl, h0⟩ := zrT_some h
  obtain ⟨za1, e0, h1⟩ := zrO_some h0
  obtain ⟨zc2, rfl, h2⟩ := zrA1_some h1
  obtain ⟨q0, rfl, h3⟩ := zrD_some h2
  obtain ⟨za3, e1, h4⟩ := zrO_some h3
  obtain ⟨zc4, rfl, h5⟩ := zrA1_some h4
  obtain ⟨q1, rfl, h6⟩ := zrD_some h5
  obtain ⟨za5, e4, h7⟩ := zrO_some h6
  obtain ⟨zc6, rfl, h8⟩ := zrA1_some h7
  obtain ⟨q2, rfl, h9⟩ := zrB_some h8
  obtain ⟨za7, e5, h10⟩ := zrO_some h9
  obtain ⟨zc8, rfl, h11⟩ := zrA1_some h10
  obtain ⟨q3, rfl, h12⟩ := zrI_some h11
  obtain ⟨rfl, h13⟩ := zrN_some h12
  have h := Option.some.inj h13
  have hu := congrArg Prod.fst h
  have hv := congrArg Prod.snd h
  dsimp only at hu hv
  subst hu
  subst hv
  exact ⟨rfl, (tm_fill (hj rfl) (Lv := [(0, .one (.d false false (.int .i64) q0)), (1, .one (.d false false (.int .i64) q1)), (4, .one (.v false (.bool q2))), (5, .one (.v false (.int .i64 q3)))]) (by kernel_rfl) ⟨e0, e1, e4, e5, trivial⟩).trans (by kernel_rfl), rfl⟩
theorem sam_read_ok (st : Stt) (u : sam_U) (v : sam_V) (h : sam_read st = some (u, v)) : sam_cok st = true ∧ staysA [] [] st.own = true ∧ sam_can st = sam_St u v := by
  obtain ⟨h1, h2, h3⟩ := sam_rd_ok (fun hb => by rw [Bool.and_eq_true, Bool.and_eq_true] at hb; exact hb.2.2) h
  rw [Bool.and_eq_true, Bool.and_eq_true] at h1
  refine ⟨h1.1, h1.2.1, ?_⟩
  have e : sam_can st = ⟨(sam_can st).tm, (sam_can st).own, 1007⟩ := by kernel_rfl
  rw [e, h2, h3]
  rfl
noncomputable def sam_cond (u : sam_U) (v : sam_V) : Bool := runC (sam_step u) v
noncomputable def sam_g (u : sam_U) (v : sam_V) : Nat × sam_V := runG (sam_step u) v
theorem sam_hg : ∀ (u : sam_U) (v : sam_V), sam_cond u v = true → loopN (sam_step u) ((fun u v => runF (sam_step u) v) u v) v = some (sam_g u v) := by
  exact fun u v h => run_hg h
noncomputable def sam_m (st : Stt) : Option (Tr (Ex × Stt)) := sumM sam_read sam_cond sam_St sam_g [(0, .ret), (1, .exit 0)] st
noncomputable def flC_L63 : FuncId → Loops := addL 9 [0, 1, 0, 1, 1] sam_m flC_L62
set_option maxRecDepth 100000 in
set_option maxHeartbeats 4000000 in
theorem flC_L63_ok : LoopsOK Try.prog flC_L63 :=
  loop_sumF (body := (bodyOf Try.prog 9)) (c := (loopOf (bodyOf Try.prog 9) [1, 1, 0, 1, 0])) (kinds := [.ret, .exit 0]) (allow := [(0, .ret), (1, .exit 0)]) (St := sam_St) (step := sam_step) (W := [2, 3, 6, 7, 8, 9, 10, 11, 12, 13, 14, 15, 16, 17, 18, 19, 20, 21, 22, 23, 24, 25]) (As := []) (ks := []) (dd := []) (nx := 1007) (n := 100000) (g := sam_g) (cond := sam_cond) (fuel := (fun u v => runF (sam_step u) v)) (read := sam_read) (by kernel_rfl) (flB_S62_ok) (flC_L62_ok) 7 ⟨Try.f9, by kernel_rfl, by kernel_rfl⟩ (by kernel_rfl) (by kernel_rfl) (by kernel_rfl) sam_step_eq sam_hg sam_read_ok
end Go.Proofs.Ytfceajcfackidaa
