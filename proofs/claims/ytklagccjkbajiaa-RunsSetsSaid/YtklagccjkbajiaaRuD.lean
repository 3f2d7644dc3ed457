/-
  Layer 6: the document's bounds.
-/
import Derived.Test.YtklagccjkbajiaaProg
import Derived.Test.YtklagccjkbajiaaFvX
import Derived.Test.YtklagccjkbajiaaFvZ
import Derived.Test.YtklagccjkbajiaaAut
import Derived.Test.YtklagccjkbajiaaRd
import Derived.Test.YtklagccjkbajiaaPl
import Derived.Test.YtklagccjkbajiaaScn
import Derived.Test.YtklagccjkbajiaaRunM
import Derived.Test.YtklagccjkbajiaaRunN
import Derived.Test.YtklagccjkbajiaaRuA
import Derived.Test.YtklagccjkbajiaaRuB
import Derived.Test.YtklagccjkbajiaaRuC
namespace Go.Proofs.Ytklagccjkbajiaa
open Go
abbrev ins_U : Type := (Ty.list (.int .i64)).den × Int
abbrev ins_V : Type := Bool × Int × (Ty.list (.int .i64)).den
noncomputable def ins_St (u : ins_U) (v : ins_V) : Stt := ⟨[.one (.d false false (.int .i64) u.1), .one (.v false (.int .i64 u.2)), .one .junk, .one .junk, .one (.v false (Value.slice none (0 : Nat) (0 : Nat))), .one (.s false 980 0 (none)), .one (.v false (.bool v.1)), .one (.v false (.int .i64 v.2.1)), .one .junk, .one .junk, .one .junk, .one .junk, .one .junk, .one .junk, .one .junk, .one .junk, .one .junk, .one .junk, .one .junk, .one .junk, .one .junk, .one .junk, .one .junk, .one .junk, .one .junk, .one .junk, .one .junk, .one .junk, .one .junk, .one .junk, .one .junk, .one .junk, .one .junk, .one .junk, .one .junk, .one .junk, .one .junk, .one .junk, .one .junk, .one .junk, .one .junk, .one .junk, .one .junk, .one .junk, .one .junk, .one .junk, .one .junk, .one .junk], [(980, .row true false false 3 (.int .i64) v.2.2)], 1004⟩
def el_i (l : (Ty.list (Ty.int IntKind.i64)).den) (i : Int) : Int := elm (Ty.int IntKind.i64) l i
noncomputable def ins_step (u : ins_U) (v : ins_V) : Tr (ins_V ⊕ (Nat × ins_V)) :=
  match u, v with
  | (q0, q1), (q2, q3, q4) => .br (decide (q3 < (↑(List.length q0) : Int))) (.br ((bif !q2 then (decide ((0 : Int) ≤ q3) && decide (q3 < (↑(List.length q0) : Int))) else true)) (.br (bif !q2 then decide (q1 ≤ el_i q0 q3) else false) (.br (decide ((0 : Int) ≤ q3) && decide (q3 < (↑(List.length q0) : Int))) (.br (decide (q1 < el_i q0 q3)) (.br (decide ((List.length q4 + (1 : Nat)) * (8 : Nat) ≤ maxNew) && decide (List.length q4 + (1 : Nat) ≤ maxLen)) (.br (decide ((0 : Int) ≤ q3) && decide (q3 < (↑(List.length q0) : Int))) (.br (decide ((List.length (q4 ++ [q1]) + (1 : Nat)) * (8 : Nat) ≤ maxNew) && decide (List.length (q4 ++ [q1]) + (1 : Nat) ≤ maxLen)) (.ret (.inl (true, IntKind.wrap IntKind.i64 (q3 + (1 : Int)), q4 ++ [q1] ++ [el_i q0 q3]))) (.bad 71)) (.bad 29)) (.bad 71)) (.br (decide ((0 : Int) ≤ q3) && decide (q3 < (↑(List.length q0) : Int))) (.br (decide ((List.length q4 + (1 : Nat)) * (8 : Nat) ≤ maxNew) && decide (List.length q4 + (1 : Nat) ≤ maxLen)) (.ret (.inl (true, IntKind.wrap IntKind.i64 (q3 + (1 : Int)), q4 ++ [el_i q0 q3]))) (.bad 71)) (.bad 29))) (.bad 29)) (.br (decide ((0 : Int) ≤ q3) && decide (q3 < (↑(List.length q0) : Int))) (.br (decide ((List.length q4 + (1 : Nat)) * (8 : Nat) ≤ maxNew) && decide (List.length q4 + (1 : Nat) ≤ maxLen)) (.ret (.inl (q2, IntKind.wrap IntKind.i64 (q3 + (1 : Int)), q4 ++ [el_i q0 q3]))) (.bad 71)) (.bad 29))) (.bad 117)) (.ret (.inr (0, (q2, q3, q4))))
set_option maxRecDepth 100000 in
set_option maxHeartbeats 4000000 in
theorem ins_step_eq : ∀ (u : ins_U) (v : ins_V), (evalC Try.prog (evalB Try.prog ruC_S56 (opens []) ruC_L52 7).1 (evalB Try.prog ruC_S56 (opens []) ruC_L52 7).2 (opens []) (ruC_L52 60) 100000 (0 :: [0, 1, 0, 1, 1, 1]) (loopOf (bodyOf Try.prog 60) [1, 1, 1, 0, 1, 0]) (ins_St u v) []).bind (finF [2, 3, 8, 9, 10, 11, 12, 13, 14, 15, 16, 17, 18, 19, 20, 21, 22, 23, 24, 25, 26, 27, 28, 29, 30, 31, 32, 33, 34, 35, 36, 37, 38, 39, 40, 41, 42, 43, 44, 45, 46, 47] [⟨980, some 5, 0, 0, 3, (.int .i64)⟩] [980] [1024, 1031, 1036] 1004) = (ins_step u v).bind (outA (ins_St u) [.exit 0]) := by
  rintro ⟨q0, q1⟩ ⟨q2, q3, q4⟩
  kernel_rfl
noncomputable def ins_rd (b : Bool) (o0 : Option AV) (o1 : Option AV) (o4 : Option AV) (o5 : Option AV) (o6 : Option AV) (o7 : Option AV) (own : Own) : Option (ins_U × ins_V) := zrT b <| zrO o0 fun za1 => zrA1 za1 fun zc2 => zrD (.int .i64) zc2 fun q0 => zrO o1 fun za3 => zrA1 za3 fun zc4 => zrI .i64 zc4 fun q1 => zrO o4 fun za5 => zrA1 za5 fun zc6 => zrNil zc6 <| zrO o5 fun za7 => zrA1 za7 fun zc8 => zrSl 980 0 (none) zc8 <| zrO o6 fun za9 => zrA1 za9 fun zc10 => zrB zc10 fun q2 => zrO o7 fun za11 => zrA1 za11 fun zc12 => zrI .i64 zc12 fun q3 => zrL own fun zq13 zw14 => zrKey 980 zq13 fun zk15 => zrR true 3 (.int .i64) zk15 fun q4 => zrN zw14 <| some ((q0, q1), (q2, q3, q4))
noncomputable def ins_can (st : Stt) : Stt := canA [2, 3, 8, 9, 10, 11, 12, 13, 14, 15, 16, 17, 18, 19, 20, 21, 22, 23, 24, 25, 26, 27, 28, 29, 30, 31, 32, 33, 34, 35, 36, 37, 38, 39, 40, 41, 42, 43, 44, 45, 46, 47] [⟨980, some 5, 0, 0, 3, (.int .i64)⟩] [980] [1024, 1031, 1036] 1004 st
noncomputable def ins_cok (st : Stt) : Bool := canAok [2, 3, 8, 9, 10, 11, 12, 13, 14, 15, 16, 17, 18, 19, 20, 21, 22, 23, 24, 25, 26, 27, 28, 29, 30, 31, 32, 33, 34, 35, 36, 37, 38, 39, 40, 41, 42, 43, 44, 45, 46, 47] [⟨980, some 5, 0, 0, 3, (.int .i64)⟩] [980] [1024, 1031, 1036] 1004 st
noncomputable def ins_read (st : Stt) : Option (ins_U × ins_V) := ins_rd (ins_cok st && (staysA [⟨980, some 5, 0, 0, 3, (.int .i64)⟩] [980] st.own && juAll [2, 3, 8, 9, 10, 11, 12, 13, 14, 15, 16, 17, 18, 19, 20, 21, 22, 23, 24, 25, 26, 27, 28, 29, 30, 31, 32, 33, 34, 35, 36, 37, 38, 39, 40, 41, 42, 43, 44, 45, 46, 47] (ins_can st).tm 48)) (ins_can st).tm[0]? (ins_can st).tm[1]? (ins_can st).tm[4]? (ins_can st).tm[5]? (ins_can st).tm[6]? (ins_can st).tm[7]? (ins_can st).own
set_option maxRecDepth 100000 in
set_option maxHeartbeats 4000000 in
theorem ins_rd_ok {b : Bool} {tm : List AV} {own : Own} {u : ins_U} {v : ins_V} (hj : b = true → juAll [2, 3, 8, 9, 10, 11, 12, 13, 14, 15, 16, 17, 18, 19, 20, 21, 22, 23, 24, 25, 26, 27, 28, 29, 30, 31, 32, 33, 34, 35, 36, 37, 38, 39, 40, 41, 42, 43, 44, 45, 46, 47] tm 48 = true) (h : ins_rd b tm[0]? tm[1]? tm[4]? tm[5]? tm[6]? tm[7]? own = some (u, v)) : b = true ∧ tm = (ins_St u v).tm ∧ own = (ins_St u v).own := by
  unfold ins_rd at h
  obtain ⟨rfl, h0⟩ := zrT_some h
  obtain ⟨za1, e0, h1⟩ := zrO_some h0
  obtain ⟨zc2, rfl, h2⟩ := zrA1_some h1
  obtain ⟨q0, rfl, h3⟩ := zrD_some h2
  obtain ⟨za3, e1, h4⟩ := zrO_some h3
  obtain ⟨zc4, rfl, h5⟩ := zrA1_some h4
  obtain ⟨q1, rfl, h6⟩ := zrI_some h5
  obtain ⟨za5, e4, h7⟩ := zrO_some h6
  obtain ⟨zc6, rfl, h8⟩ := zrA1_some h7
  obtain ⟨rfl, h9⟩ := zrNil_some h8
  obtain ⟨za7, e5, h10⟩ := zrO_some h9
  obtain ⟨zc8, rfl, h11⟩ := zrA1_some h10
  obtain ⟨rfl, h12⟩ := zrSl_some h11
  obtain ⟨za9, e6, h13⟩ := zrO_some h12
  obtain ⟨zc10, rfl, h14⟩ := zrA1_some h13
  obtain ⟨q2, rfl, h15⟩ := zrB_some h14
  obtain ⟨za11, e7, h16⟩ := zrO_some h15
  obtain ⟨zc12, rfl, h17⟩ := zrA1_some h16
  obtain ⟨q3, rfl, h18⟩ := zrI_some h17
  obtain ⟨zq13, zw14, rfl, h19⟩ := zrL_some h18
  obtain ⟨zk15, rfl, h20⟩ := zrKey_some h19
  obtain ⟨q4, rfl, h21⟩ := zrR_some h20
  obtain ⟨rfl, h22⟩ := zrN_some h21
  have h := Option.some.inj h22
  have hu := congrArg Prod.fst h
  have hv := congrArg Prod.snd h
  dsimp only at hu hv
  subst hu
  subst hv
  exact ⟨rfl, (tm_fill (hj rfl) (Lv := [(0, .one (.d false false (.int .i64) q0)), (1, .one (.v false (.int .i64 q1))), (4, .one (.v false (Value.slice none (0 : Nat) (0 : Nat)))), (5, .one (.s false 980 0 (none))), (6, .one (.v false (.bool q2))), (7, .one (.v false (.int .i64 q3)))]) (by kernel_rfl) ⟨e0, e1, e4, e5, e6, e7, trivial⟩).trans (by kernel_rfl), rfl⟩
theorem ins_read_ok (st : Stt) (u : ins_U) (v : ins_V) (h : ins_read st = some (u, v)) : ins_cok st = true ∧ staysA [⟨980, some 5, 0, 0, 3, (.int .i64)⟩] [980] st.own = true ∧ ins_can st = ins_St u v := by
  obtain ⟨h1, h2, h3⟩ := ins_rd_ok (fun hb => by rw [Bool.and_eq_true, Bool.and_eq_true] at hb; exact hb.2.2) h
  rw [Bool.and_eq_true, Bool.and_eq_true] at h1
  refine ⟨h1.1, h1.2.1, ?_⟩
  have e : ins_can st = ⟨(ins_can st).tm, (ins_can st).own, 1004⟩ := by kernel_rfl
  rw [e, h2, h3]
  rfl
noncomputable def ins_cond (u : ins_U) (v : ins_V) : Bool := runC (ins_step u) v
noncomputable def ins_g (u : ins_U) (v : ins_V) : Nat × ins_V := runG (ins_step u) v
theorem ins_hg : ∀ (u : ins_U) (v : ins_V), ins_cond u v = true → loopN (ins_step u) ((fun u v => runF (ins_step u) v) u v) v = some (ins_g u v) := by
  exact fun u v h => run_hg h
noncomputable def ins_m (st : Stt) : Option (Tr (Ex × Stt)) := sumM ins_read ins_cond ins_St ins_g [(0, .exit 0)] st
noncomputable def ruD_L51 : FuncId → Loops := addL 60 [0, 1, 0, 1, 1, 1] ins_m ruC_L52
set_option maxRecDepth 100000 in
set_option maxHeartbeats 4000000 in
theorem ruD_L51_ok : LoopsOK Try.prog ruD_L51 :=
  loop_sumF (body := (bodyOf Try.prog 60)) (c := (loopOf (bodyOf Try.prog 60) [1, 1, 1, 0, 1, 0])) (kinds := [.exit 0]) (allow := [(0, .exit 0)]) (St := ins_St) (step := ins_step) (W := [2, 3, 8, 9, 10, 11, 12, 13, 14, 15, 16, 17, 18, 19, 20, 21, 22, 23, 24, 25, 26, 27, 28, 29, 30, 31, 32, 33, 34, 35, 36, 37, 38, 39, 40, 41, 42, 43, 44, 45, 46, 47]) (As := [⟨980, some 5, 0, 0, 3, (.int .i64)⟩]) (ks := [980]) (dd := [1024, 1031, 1036]) (nx := 1004) (n := 100000) (g := ins_g) (cond := ins_cond) (fuel := (fun u v => runF (ins_step u) v)) (read := ins_read) (by kernel_rfl) (ruC_S56_ok) (ruC_L52_ok) 7 ⟨Try.f60, by kernel_rfl, by kernel_rfl⟩ (by kernel_rfl) (by kernel_rfl) (by kernel_rfl) ins_step_eq ins_hg ins_read_ok
theorem el_n {l : List Int} {i : Nat} (h : i < l.length) : el_i l (i : Int) = l[i] := elm_lt (t := .int .i64) h
theorem ins_run {l : List Int} {x : Int} (hn : l.length ≤ 90000) : ins_cond (l, x) (false, 0, []) = true ∧ ins_g (l, x) (false, 0, []) = (0, (leA l x, (l.length : Int), bif leA l x then insI l x else l)) := by
  have R := run_steps (step := ins_step (l, x)) (St := fun j => (leA (l.take j) x, (j : Int), bif leA (l.take j) x then insI (l.take j) x else l.take j)) (n := l.length) (t := (0, (leA l x, (l.length : Int), bif leA l x then insI l x else l))) (by
    simp only [ins_step, Tr.val, Int.lt_irrefl, decide_false, cond_false, List.take_length]) l.length 0 (Nat.zero_add _) (fun j _ hj => by
    have e1 : l.take (j + 1) = l.take j ++ [l[j]] := List.take_succ_eq_append_getElem hj
    have hl : (l.take j).length = j := by rw [List.length_take]; omega
    have h2 := insI_len (l.take j) x
    have w1 := wi1 hj (show (l.length : Int) ≤ 9223372036854775806 by omega)
    rw [e1, leA_snoc, insI_snoc]
    generalize l.take j = A at *
    cases hd : leA A x
    · obtain ⟨r1, r2⟩ := room8 (n := A.length + 1) (by omega)
      obtain ⟨r3, r4⟩ := room8 (n := (A ++ [x]).length + 1) (by simp; omega)
      simp only [ins_step, Tr.val, lt_t hj, nn_t, el_n hj, w1, r1, r2, r3, r4, hd, Bool.not_false, Bool.false_or, Bool.and_self, cond_true, cond_false]
      show _ = some (Sum.inl (decide (x ≤ l[j]), ((j + 1 : Nat) : Int), bif decide (x ≤ l[j]) then A ++ (bif decide (x ≤ l[j]) then (bif decide (x < l[j]) then x :: l[j] :: [] else l[j] :: []) else l[j] :: [x]) else A ++ [l[j]]))
      cases decide (x ≤ l[j])
      · rfl
      · cases decide (x < l[j])
        · rfl
        · simp
    · obtain ⟨r1, r2⟩ := room8 (n := (insI A x).length + 1) (by omega)
      simp only [ins_step, Tr.val, lt_t hj, nn_t, el_n hj, w1, r1, r2, hd, Bool.not_true, Bool.true_or, Bool.and_self, cond_true, cond_false])
  exact R
set_option maxRecDepth 100000 in
theorem insc_tree (l : (Ty.list (.int .i64)).den) (x : Int) : evalF Try.prog ruC_S56 (opens []) ruD_L51 9 60 [.one (.d false false (.int .i64) l), .one (.v false (.int .i64 x))] = .br (((ins_cond (l, x) (false, (0 : Int), [])) && ((Nat.beq (Prod.fst (ins_g (l, x) (false, (0 : Int), []))) (0 : Nat)) && (bif !Prod.fst (Prod.snd (ins_g (l, x) (false, (0 : Int), []))) then (decide ((List.length (Prod.snd (Prod.snd (Prod.snd (ins_g (l, x) (false, (0 : Int), []))))) + (1 : Nat)) * (8 : Nat) ≤ maxNew) && decide (List.length (Prod.snd (Prod.snd (Prod.snd (ins_g (l, x) (false, (0 : Int), []))))) + (1 : Nat) ≤ maxLen)) else true)))) (.ret (.one (.d false false (.int .i64) (bif !Prod.fst (Prod.snd (ins_g (l, x) (false, (0 : Int), []))) then Prod.snd (Prod.snd (Prod.snd (ins_g (l, x) (false, (0 : Int), [])))) ++ [x] else Prod.snd (Prod.snd (Prod.snd (ins_g (l, x) (false, (0 : Int), [])))))))) (.bad 116) := by kernel_rfl
theorem insc_val (l : (Ty.list (.int .i64)).den) (x : Int) (hc : (decide (l.length ≤ 90000)) = true) : (.br (((ins_cond (l, x) (false, (0 : Int), [])) && ((Nat.beq (Prod.fst (ins_g (l, x) (false, (0 : Int), []))) (0 : Nat)) && (bif !Prod.fst (Prod.snd (ins_g (l, x) (false, (0 : Int), []))) then (decide ((List.length (Prod.snd (Prod.snd (Prod.snd (ins_g (l, x) (false, (0 : Int), []))))) + (1 : Nat)) * (8 : Nat) ≤ maxNew) && decide (List.length (Prod.snd (Prod.snd (Prod.snd (ins_g (l, x) (false, (0 : Int), []))))) + (1 : Nat) ≤ maxLen)) else true)))) (.ret (.one (.d false false (.int .i64) (bif !Prod.fst (Prod.snd (ins_g (l, x) (false, (0 : Int), []))) then Prod.snd (Prod.snd (Prod.snd (ins_g (l, x) (false, (0 : Int), [])))) ++ [x] else Prod.snd (Prod.snd (Prod.snd (ins_g (l, x) (false, (0 : Int), [])))))))) (.bad 116) : Tr AV).val = some (.one (.d false false (.int .i64) (insI l x))) := by
  obtain ⟨K, rfl⟩ : ∃ K : List Int, K = l := ⟨l, rfl⟩
  have hn : K.length ≤ 90000 := of_decide_eq_true hc
  obtain ⟨v1, v2⟩ := ins_run (x := x) hn
  show cond _ _ _ = _
  cases hd : leA K x
  · obtain ⟨r1, r2⟩ := room8 (n := K.length + 1) (by omega)
    simp only [v1, v2, hd, r1, r2, insI_none hd, Nat.beq, Bool.not_false, Bool.and_self, cond_true, cond_false, Tr.val]
  · simp only [v1, v2, hd, Nat.beq, Bool.not_true, Bool.and_self, cond_true, cond_false, Tr.val]
noncomputable def insc_g : List AV → Option (Tr AV)
  | [.one (.d _ _ (.int .i64) l), .one (.v _ (.int .i64 x))] => some (.br (decide (l.length ≤ 90000)) (.ret (.one (.d false false (.int .i64) (insI l x)))) (.bad 900))
  | _ => none
set_option maxHeartbeats 4000000 in
theorem insc_ok : FunOK Try.prog 60 insc_g := by
  refine fun_ok (by kernel_rfl) (ruC_S56_ok) (ruD_L51_ok) 9 (On := (opens [])) (fun args t h => ?_)
  unfold insc_g at h
  split at h
  · rename_i _ _ l _ x
    simp only [Option.some.injEq] at h
    subst h
    refine ⟨[.one (.d false false (.int .i64) l), .one (.v false (.int .i64 x))], rfl, fun fr w us h => h, fun r hr => ?_⟩
    obtain ⟨hc, hr⟩ := br_bad hr
    simp only [Tr.val, Option.some.injEq] at hr
    subst hr
    rw [insc_tree]
    exact insc_val l x hc
  · cases h
noncomputable def ruD_S52 : Sums := addS 60 insc_g ruC_S56
theorem ruD_S52_ok : SumOK Try.prog ruD_S52 := addS_ok (insc_ok) (ruC_S56_ok)
abbrev bnd_U : Type := (Ty.list (.prod (.int .i64) (.int .i64))).den
abbrev bnd_V : Type := (Ty.list (.int .i64)).den × Int
noncomputable def bnd_St (u : bnd_U) (v : bnd_V) : Stt := ⟨[.one (.d false false (.prod (.int .i64) (.int .i64)) u), .one .junk, .one (.v false (Value.slice none (0 : Nat) (0 : Nat))), .one (.d false false (.int .i64) v.1), .one (.v false (.int .i64 v.2)), .one .junk, .one .junk, .one .junk, .one .junk, .one .junk, .one .junk, .one .junk, .one .junk, .one .junk, .one .junk, .one .junk, .one .junk, .one .junk, .one .junk, .one .junk, .one .junk, .one .junk, .one .junk, .one .junk, .one .junk, .one .junk, .one .junk, .one .junk, .one .junk, .one .junk, .one .junk, .one .junk, .one .junk, .one .junk, .one .junk, .one .junk, .one .junk], [], 1003⟩
noncomputable def bnd_step (u : bnd_U) (v : bnd_V) : Tr (bnd_V ⊕ (Nat × bnd_V)) :=
  match u, v with
  | q0, (q1, q2) => .br (decide (q2 < (↑(List.length q0) : Int))) (.br (decide ((0 : Int) ≤ q2) && decide (q2 < (↑(List.length q0) : Int))) (.br (decide ((0 : Int) ≤ q2) && decide (q2 < (↑(List.length q0) : Int))) (.br (decide (Prod.fst (el_ii q0 q2) < Prod.snd (el_ii q0 q2))) (.br (decide ((0 : Int) ≤ q2) && decide (q2 < (↑(List.length q0) : Int))) (.br (decide (List.length q1 ≤ (90000 : Nat))) (.br (decide ((0 : Int) ≤ q2) && decide (q2 < (↑(List.length q0) : Int))) (.br (decide (List.length (insI q1 (Prod.fst (el_ii q0 q2))) ≤ (90000 : Nat))) (.ret (.inl (insI (insI q1 (Prod.fst (el_ii q0 q2))) (Prod.snd (el_ii q0 q2)), IntKind.wrap IntKind.i64 (q2 + (1 : Int))))) (.bad 900)) (.bad 29)) (.bad 900)) (.bad 29)) (.ret (.inl (q1, IntKind.wrap IntKind.i64 (q2 + (1 : Int)))))) (.bad 29)) (.bad 29)) (.ret (.inr (0, (q1, q2))))
set_option maxRecDepth 100000 in
set_option maxHeartbeats 4000000 in
theorem bnd_step_eq : ∀ (u : bnd_U) (v : bnd_V), (evalC Try.prog (evalB Try.prog ruD_S52 (opens []) ruD_L51 7).1 (evalB Try.prog ruD_S52 (opens []) ruD_L51 7).2 (opens []) (ruD_L51 47) 100000 (0 :: [0, 1, 0, 1, 1]) (loopOf (bodyOf Try.prog 47) [1, 1, 0, 1, 0]) (bnd_St u v) []).bind (finF [1, 5, 6, 7, 8, 9, 10, 11, 12, 13, 14, 15, 16, 17, 18, 19, 20, 21, 22, 23, 24, 25, 26, 27, 28, 29, 30, 31, 32, 33, 34, 35, 36] [⟨100003, some 3, 0, 0, 0, (.int .i64)⟩] [] [] 1003) = (bnd_step u v).bind (outA (bnd_St u) [.exit 0]) := by
  rintro q0 ⟨q1, q2⟩
  kernel_rfl
noncomputable def bnd_rd (b : Bool) (o0 : Option AV) (o2 : Option AV) (o3 : Option AV) (o4 : Option AV) (own : Own) : Option (bnd_U × bnd_V) := zrT b <| zrO o0 fun za1 => zrA1 za1 fun zc2 => zrD (.prod (.int .i64) (.int .i64)) zc2 fun q0 => zrO o2 fun za3 => zrA1 za3 fun zc4 => zrNil zc4 <| zrO o3 fun za5 => zrA1 za5 fun zc6 => zrD (.int .i64) zc6 fun q1 => zrO o4 fun za7 => zrA1 za7 fun zc8 => zrI .i64 zc8 fun q2 => zrN own <| some (q0, (q1, q2))
noncomputable def bnd_can (st : Stt) : Stt := canA [1, 5, 6, 7, 8, 9, 10, 11, 12, 13, 14, 15, 16, 17, 18, 19, 20, 21, 22, 23, 24, 25, 26, 27, 28, 29, 30, 31, 32, 33, 34, 35, 36] [⟨100003, some 3, 0, 0, 0, (.int .i64)⟩] [] [] 1003 st
noncomputable def bnd_cok (st : Stt) : Bool := canAok [1, 5, 6, 7, 8, 9, 10, 11, 12, 13, 14, 15, 16, 17, 18, 19, 20, 21, 22, 23, 24, 25, 26, 27, 28, 29, 30, 31, 32, 33, 34, 35, 36] [⟨100003, some 3, 0, 0, 0, (.int .i64)⟩] [] [] 1003 st
noncomputable def bnd_read (st : Stt) : Option (bnd_U × bnd_V) := bnd_rd (bnd_cok st && (staysA [⟨100003, some 3, 0, 0, 0, (.int .i64)⟩] [] st.own && juAll [1, 5, 6, 7, 8, 9, 10, 11, 12, 13, 14, 15, 16, 17, 18, 19, 20, 21, 22, 23, 24, 25, 26, 27, 28, 29, 30, 31, 32, 33, 34, 35, 36] (bnd_can st).tm 37)) (bnd_can st).tm[0]? (bnd_can st).tm[2]? (bnd_can st).tm[3]? (bnd_can st).tm[4]? (bnd_can st).own
set_option maxRecDepth 100000 in
set_option maxHeartbeats 4000000 in
theorem bnd_rd_ok {b : Bool} {tm : List AV} {own : Own} {u : bnd_U} {v : bnd_V} (hj : b = true → juAll [1, 5, 6, 7, 8, 9, 10, 11, 12, 13, 14, 15, 16, 17, 18, 19, 20, 21, 22, 23, 24, 25, 26, 27, 28, 29, 30, 31, 32, 33, 34, 35, 36] tm 37 = true) (h : bnd_rd b tm[0]? tm[2]? tm[3]? tm[4]? own = some (u, v)) : b = true ∧ tm = (bnd_St u v).tm ∧ own = (bnd_St u v).own := by
  unfold bnd_rd at h
  obtain ⟨rfl, h0⟩ := zrT_some h
  obtain ⟨za1, e0, h1⟩ := zrO_some h0
  obtain ⟨zc2, rfl, h2⟩ := zrA1_some h1
  obtain ⟨q0, rfl, h3⟩ := zrD_some h2
  obtain ⟨za3, e2, h4⟩ := zrO_some h3
  obtain ⟨zc4, rfl, h5⟩ := zrA1_some h4
  obtain ⟨rfl, h6⟩ := zrNil_some h5
  obtain ⟨za5, e3, h7⟩ := zrO_some h6
  obtain ⟨zc6, rfl, h8⟩ := zrA1_some h7
  obtain ⟨q1, rfl, h9⟩ := zrD_some h8
  obtain ⟨za7, e4, h10⟩ := zrO_some h9
  obtain ⟨zc8, rfl, h11⟩ := zrA1_some h10
  obtain ⟨q2, rfl, h12⟩ := zrI_some h11
  obtain ⟨rfl, h13⟩ := zrN_some h12
  have h := Option.some.inj h13
  have hu := congrArg Prod.fst h
  have hv := congrArg Prod.snd h
  dsimp only at hu hv
  subst hu
  subst hv
  exact ⟨rfl, (tm_fill (hj rfl) (Lv := [(0, .one (.d false false (.prod (.int .i64) (.int .i64)) q0)), (2, .one (.v false (Value.slice none (0 : Nat) (0 : Nat)))), (3, .one (.d false false (.int .i64) q1)), (4, .one (.v false (.int .i64 q2)))]) (by kernel_rfl) ⟨e0, e2, e3, e4, trivial⟩).trans (by kernel_rfl), rfl⟩
theorem bnd_read_ok (st : Stt) (u : bnd_U) (v : bnd_V) (h : bnd_read st = some (u, v)) : bnd_cok st = true ∧ staysA [⟨100003, some 3, 0, 0, 0, (.int .i64)⟩] [] st.own = true ∧ bnd_can st = bnd_St u v := by
  obtain ⟨h1, h2, h3⟩ := bnd_rd_ok (fun hb => by rw [Bool.and_eq_true, Bool.and_eq_true] at hb; exact hb.2.2) h
  rw [Bool.and_eq_true, Bool.and_eq_true] at h1
  refine ⟨h1.1, h1.2.1, ?_⟩
  have e : bnd_can st = ⟨(bnd_can st).tm, (bnd_can st).own, 1003⟩ := by kernel_rfl
  rw [e, h2, h3]
  rfl
noncomputable def bnd_cond (u : bnd_U) (v : bnd_V) : Bool := runC (bnd_step u) v
noncomputable def bnd_g (u : bnd_U) (v : bnd_V) : Nat × bnd_V := runG (bnd_step u) v
theorem bnd_hg : ∀ (u : bnd_U) (v : bnd_V), bnd_cond u v = true → loopN (bnd_step u) ((fun u v => runF (bnd_step u) v) u v) v = some (bnd_g u v) := by
  exact fun u v h => run_hg h
noncomputable def bnd_m (st : Stt) : Option (Tr (Ex × Stt)) := sumM bnd_read bnd_cond bnd_St bnd_g [(0, .exit 0)] st
noncomputable def ruD_L53 : FuncId → Loops := addL 47 [0, 1, 0, 1, 1] bnd_m ruD_L51
set_option maxRecDepth 100000 in
set_option maxHeartbeats 4000000 in
theorem ruD_L53_ok : LoopsOK Try.prog ruD_L53 :=
  loop_sumF (body := (bodyOf Try.prog 47)) (c := (loopOf (bodyOf Try.prog 47) [1, 1, 0, 1, 0])) (kinds := [.exit 0]) (allow := [(0, .exit 0)]) (St := bnd_St) (step := bnd_step) (W := [1, 5, 6, 7, 8, 9, 10, 11, 12, 13, 14, 15, 16, 17, 18, 19, 20, 21, 22, 23, 24, 25, 26, 27, 28, 29, 30, 31, 32, 33, 34, 35, 36]) (As := [⟨100003, some 3, 0, 0, 0, (.int .i64)⟩]) (ks := []) (dd := []) (nx := 1003) (n := 100000) (g := bnd_g) (cond := bnd_cond) (fuel := (fun u v => runF (bnd_step u) v)) (read := bnd_read) (by kernel_rfl) (ruD_S52_ok) (ruD_L51_ok) 7 ⟨Try.f47, by kernel_rfl, by kernel_rfl⟩ (by kernel_rfl) (by kernel_rfl) (by kernel_rfl) bnd_step_eq bnd_hg bnd_read_ok
theorem bnd_run {L : Rl} (hn : L.length ≤ 10000) : bnd_cond L ([], 0) = true ∧ bnd_g L ([], 0) = (0, (bsR L, (L.length : Int))) := by
  have R := run_steps (step := bnd_step L) (St := fun j => (bsR (L.take j), (j : Int))) (n := L.length) (t := (0, (bsR L, (L.length : Int)))) (by
    simp only [bnd_step, Tr.val, Int.lt_irrefl, decide_false, cond_false, List.take_length]) L.length 0 (Nat.zero_add _) (fun j _ hj => by
    have hl := bsR_len (L.take j)
    rw [List.length_take] at hl
    have h2 := insI_len (bsR (L.take j)) L[j].1
    have c1 : decide ((bsR (L.take j)).length ≤ 90000) = true := decide_eq_true (by omega)
    have c2 : decide ((insI (bsR (L.take j)) L[j].1).length ≤ 90000) = true := decide_eq_true (by omega)
    rw [bsR_take hj]
    unfold bstR
    simp only [bnd_step, Tr.val, lt_t hj, nn_t, el_r hj, c1, c2, wi1 hj (show (L.length : Int) ≤ 9223372036854775806 by omega), Bool.and_self, cond_true]
    cases decide (L[j].1 < L[j].2) <;> rfl)
  exact R
set_option maxRecDepth 100000 in
theorem bndc_tree (L : (Ty.list (.prod (.int .i64) (.int .i64))).den) : evalF Try.prog ruD_S52 (opens []) ruD_L53 9 47 [.one (.d false false (.prod (.int .i64) (.int .i64)) L)] = .br (((bnd_cond L ([], (0 : Int))) && (Nat.beq (Prod.fst (bnd_g L ([], (0 : Int)))) (0 : Nat)))) (.ret (.one (.d false false (.int .i64) (Prod.fst (Prod.snd (bnd_g L ([], (0 : Int)))))))) (.bad 116) := by kernel_rfl
theorem bndc_val (L : (Ty.list (.prod (.int .i64) (.int .i64))).den) (hc : (decide (L.length ≤ 10000)) = true) : (.br (((bnd_cond L ([], (0 : Int))) && (Nat.beq (Prod.fst (bnd_g L ([], (0 : Int)))) (0 : Nat)))) (.ret (.one (.d false false (.int .i64) (Prod.fst (Prod.snd (bnd_g L ([], (0 : Int)))))))) (.bad 116) : Tr AV).val = some (.one (.d false false (.int .i64) (bsR L))) := by
  have hn := of_decide_eq_true hc
  obtain ⟨v1, v2⟩ := bnd_run hn
  show cond _ _ _ = _
  simp [v1, v2, Nat.beq, Tr.val]
noncomputable def bndc_g : List AV → Option (Tr AV)
  | [.one (.d _ _ (.prod (.int .i64) (.int .i64)) L)] => some (.br (decide (L.length ≤ 10000)) (.ret (.one (.d false false (.int .i64) (bsR L)))) (.bad 900))
  | _ => none
set_option maxHeartbeats 4000000 in
theorem bndc_ok : FunOK Try.prog 47 bndc_g := by
  refine fun_ok (by kernel_rfl) (ruD_S52_ok) (ruD_L53_ok) 9 (On := (opens [])) (fun args t h => ?_)
  unfold bndc_g at h
  split at h
  · rename_i _ _ L
    simp only [Option.some.injEq] at h
    subst h
    refine ⟨[.one (.d false false (.prod (.int .i64) (.int .i64)) L)], rfl, fun fr w us h => h, fun r hr => ?_⟩
    obtain ⟨hc, hr⟩ := br_bad hr
    simp only [Tr.val, Option.some.injEq] at hr
    subst hr
    rw [bndc_tree]
    exact bndc_val L hc
  · cases h
noncomputable def ruD_S54 : Sums := addS 47 bndc_g ruD_S52
theorem ruD_S54_ok : SumOK Try.prog ruD_S54 := addS_ok (bndc_ok) (ruD_S52_ok)
end Go.Proofs.Ytklagccjkbajiaa
