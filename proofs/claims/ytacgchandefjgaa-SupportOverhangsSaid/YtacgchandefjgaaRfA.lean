/-
  Texts in one: RfA, RfB.
-/
import Derived.Test.YtacgchandefjgaaProg
import Derived.Test.YtacgchandefjgaaFvX
import Derived.Test.YtacgchandefjgaaFvZ
import Derived.Test.YtacgchandefjgaaAut
import Derived.Test.YtacgchandefjgaaRd
import Derived.Test.YtacgchandefjgaaPl
import Derived.Test.YtacgchandefjgaaScn
import Derived.Test.YtacgchandefjgaaMor
import Derived.Test.YtacgchandefjgaaRgB
import Derived.Test.YtacgchandefjgaaRgC
import Derived.Test.YtacgchandefjgaaRgD
import Derived.Test.YtacgchandefjgaaMoB
import Derived.Test.YtacgchandefjgaaMoC
import Derived.Test.YtacgchandefjgaaMoD
namespace Go.Proofs.Ytacgchandefjgaa
open Go
noncomputable def rfA_L51 : FuncId → Loops := moD_L55
set_option maxRecDepth 100000 in
set_option maxHeartbeats 4000000 in
theorem rfA_L51_ok : LoopsOK Try.prog rfA_L51 := moD_L55_ok
noncomputable def rfA_S52 : Sums := moD_S58
theorem rfA_S52_ok : SumOK Try.prog rfA_S52 := moD_S58_ok
set_option maxRecDepth 100000 in
set_option maxHeartbeats 4000000 in
theorem in6_step_eq : ∀ (u : inn_U) (v : va_V), (evalC Try.prog (evalB Try.prog rfA_S52 (opens []) rfA_L51 7).1 (evalB Try.prog rfA_S52 (opens []) rfA_L51 7).2 (opens []) (rfA_L51 105) 100000 (0 :: [0, 1, 0, 1]) (loopOf (bodyOf Try.prog 105) [1, 0, 1, 0]) (inn_St u v) []).bind (finF [2, 3, 6, 7, 8, 9, 10, 11, 12, 13, 14, 15, 16, 17, 18, 19, 20, 21, 22, 23, 24, 25, 26, 27] [] [] [] 1002) = (inn_step u v).bind (outA (inn_St u) [.ret, .exit 0]) := by
  rintro ⟨q0, q1⟩ ⟨q2, q3⟩
  kernel_rfl
noncomputable def rfA_L53 : FuncId → Loops := addL 105 [0, 1, 0, 1] inn_m rfA_L51
set_option maxRecDepth 100000 in
set_option maxHeartbeats 4000000 in
theorem rfA_L53_ok : LoopsOK Try.prog rfA_L53 :=
  loop_sumF (body := (bodyOf Try.prog 105)) (c := (loopOf (bodyOf Try.prog 105) [1, 0, 1, 0])) (kinds := [.ret, .exit 0]) (allow := [(0, .ret), (1, .exit 0)]) (St := inn_St) (step := inn_step) (W := [2, 3, 6, 7, 8, 9, 10, 11, 12, 13, 14, 15, 16, 17, 18, 19, 20, 21, 22, 23, 24, 25, 26, 27]) (As := []) (ks := []) (dd := []) (nx := 1002) (n := 100000) (g := inn_g) (cond := inn_cond) (fuel := (fun u v => runF (inn_step u) v)) (read := inn_read) (by kernel_rfl) (rfA_S52_ok) (rfA_L51_ok) 7 ⟨Try.f105, by kernel_rfl, by kernel_rfl⟩ (by kernel_rfl) (by kernel_rfl) (by kernel_rfl) in6_step_eq inn_hg inn_read_ok
set_option maxRecDepth 100000 in
theorem in6c_tree (L : (Ty.list (.prod (.int .i64) (.int .i64))).den) (x : Int) : evalF Try.prog rfA_S52 (opens []) rfA_L53 9 105 [.one (.d false false (.prod (.int .i64) (.int .i64)) L), .one (.v false (.int .i64 x))] = .br (((inn_cond (L, x) (false, (0 : Int))) && (bif Nat.beq (Prod.fst (inn_g (L, x) (false, (0 : Int)))) (0 : Nat) then true else (Nat.beq (Prod.fst (inn_g (L, x) (false, (0 : Int)))) (1 : Nat))))) (.ret (.one (.v false (.bool (bif Nat.beq (Prod.fst (inn_g (L, x) (false, (0 : Int)))) (0 : Nat) then Prod.fst (Prod.snd (inn_g (L, x) (false, (0 : Int)))) else false))))) (.bad 116) := by kernel_rfl
set_option maxHeartbeats 4000000 in
theorem in6c_ok : FunOK Try.prog 105 innc_g := by
  refine fun_ok (by kernel_rfl) (rfA_S52_ok) (rfA_L53_ok) 9 (On := (opens [])) (fun args t h => ?_)
  unfold innc_g at h
  split at h
  · rename_i _ _ L _ x
    simp only [Option.some.injEq] at h
    subst h
    refine ⟨[.one (.d false false (.prod (.int .i64) (.int .i64)) L), .one (.v false (.int .i64 x))], rfl, fun fr w us h => h, fun r hr => ?_⟩
    obtain ⟨hc, hr⟩ := br_bad hr
    simp only [Tr.val, Option.some.injEq] at hr
    subst hr
    rw [in6c_tree]
    exact innc_val L x hc
  · cases h
noncomputable def rfA_S54 : Sums := addS 105 innc_g rfA_S52
theorem rfA_S54_ok : SumOK Try.prog rfA_S54 := addS_ok (in6c_ok) (rfA_S52_ok)
noncomputable def rfA_L55 : FuncId → Loops := rfA_L53
set_option maxRecDepth 100000 in
set_option maxHeartbeats 4000000 in
theorem rfA_L55_ok : LoopsOK Try.prog rfA_L55 := rfA_L53_ok
noncomputable def rfA_S56 : Sums := rfA_S54
theorem rfA_S56_ok : SumOK Try.prog rfA_S56 := rfA_S54_ok
abbrev ins_U : Type := (Ty.list (.int .i64)).den × Int
abbrev ins_V : Type := Bool × Int × (Ty.list (.int .i64)).den
noncomputable def ins_St (u : ins_U) (v : ins_V) : Stt := ⟨[.one (.d false false (.int .i64) u.1), .one (.v false (.int .i64 u.2)), .one .junk, .one .junk, .one (.v false (Value.slice none (0 : Nat) (0 : Nat))), .one (.s false 980 0 (none)), .one (.v false (.bool v.1)), .one (.v false (.int .i64 v.2.1)), .one .junk, .one .junk, .one .junk, .one .junk, .one .junk, .one .junk, .one .junk, .one .junk, .one .junk, .one .junk, .one .junk, .one .junk, .one .junk, .one .junk, .one .junk, .one .junk, .one .junk, .one .junk, .one .junk, .one .junk, .one .junk, .one .junk, .one .junk, .one .junk, .one .junk, .one .junk, .one .junk, .one .junk, .one .junk, .one .junk, .one .junk, .one .junk, .one .junk, .one .junk, .one .junk, .one .junk, .one .junk, .one .junk, .one .junk, .one .junk], [(980, .row true false false 3 (.int .i64) v.2.2)], 1004⟩
def el_i (l : (Ty.list (Ty.int IntKind.i64)).den) (i : Int) : Int := elm (Ty.int IntKind.i64) l i
noncomputable def ins_step (u : ins_U) (v : ins_V) : Tr (ins_V ⊕ (Nat × ins_V)) :=
  match u, v with
  | (q0, q1), (q2, q3, q4) => .br (decide (q3 < (↑(List.length q0) : Int))) (.br ((bif !q2 then (decide ((0 : Int) ≤ q3) && decide (q3 < (↑(List.length q0) : Int))) else true)) (.br (bif !q2 then decide (q1 ≤ el_i q0 q3) else false) (.br (decide ((0 : Int) ≤ q3) && decide (q3 < (↑(List.length q0) : Int))) (.br (decide (q1 < el_i q0 q3)) (.br (decide ((List.length q4 + (1 : Nat)) * (8 : Nat) ≤ maxNew) && decide (List.length q4 + (1 : Nat) ≤ maxLen)) (.br (decide ((0 : Int) ≤ q3) && decide (q3 < (↑(List.length q0) : Int))) (.br (decide ((List.length (q4 ++ [q1]) + (1 : Nat)) * (8 : Nat) ≤ maxNew) && decide (List.length (q4 ++ [q1]) + (1 : Nat) ≤ maxLen)) (.ret (.inl (true, IntKind.wrap .i64 (q3 + (1 : Int)), q4 ++ [q1] ++ [el_i q0 q3]))) (.bad 71)) (.bad 29)) (.bad 71)) (.br (decide ((0 : Int) ≤ q3) && decide (q3 < (↑(List.length q0) : Int))) (.br (decide ((List.length q4 + (1 : Nat)) * (8 : Nat) ≤ maxNew) && decide (List.length q4 + (1 : Nat) ≤ maxLen)) (.ret (.inl (true, IntKind.wrap .i64 (q3 + (1 : Int)), q4 ++ [el_i q0 q3]))) (.bad 71)) (.bad 29))) (.bad 29)) (.br (decide ((0 : Int) ≤ q3) && decide (q3 < (↑(List.length q0) : Int))) (.br (decide ((List.length q4 + (1 : Nat)) * (8 : Nat) ≤ maxNew) && decide (List.length q4 + (1 : Nat) ≤ maxLen)) (.ret (.inl (q2, IntKind.wrap .i64 (q3 + (1 : Int)), q4 ++ [el_i q0 q3]))) (.bad 71)) (.bad 29))) (.bad 117)) (.ret (.inr (0, (q2, q3, q4))))
set_option maxRecDepth 100000 in
set_option maxHeartbeats 4000000 in
theorem ins_step_eq : ∀ (u : ins_U) (v : ins_V), (evalC Try.prog (evalB Try.prog rfA_S56 (opens []) rfA_L55 7).1 (evalB Try.prog rfA_S56 (opens []) rfA_L55 7).2 (opens []) (rfA_L55 119) 100000 (0 :: [0, 1, 0, 1, 1, 1]) (loopOf (bodyOf Try.prog 119) [1, 1, 1, 0, 1, 0]) (ins_St u v) []).bind (finF [2, 3, 8, 9, 10, 11, 12, 13, 14, 15, 16, 17, 18, 19, 20, 21, 22, 23, 24, 25, 26, 27, 28, 29, 30, 31, 32, 33, 34, 35, 36, 37, 38, 39, 40, 41, 42, 43, 44, 45, 46, 47] [⟨980, some 5, 0, 0, 3, (.int .i64)⟩] [980] [1024, 1031, 1036] 1004) = (ins_step u v).bind (outA (ins_St u) [.exit 0]) := by
  rintro ⟨q0, q1⟩ ⟨q2, q3, q4⟩
  kernel_rfl
noncomputable def ins_rd (b : Bool) (o0 : Option AV) (o1 : Option AV) (o4 : Option AV) (o5 : Option AV) (o6 : Option AV) (o7 : Option AV) (own : Own) : Option (ins_U × ins_V) := zrT b <| zrO o0 fun za1 => zrA1 za1 fun zc2 => zrD (.int .i64) zc2 fun q0 => zrO o1 fun za3 => zrA1 za3 fun zc4 => zrI .i64 zc4 fun q1 => zrO o4 fun za5 => zrA1 za5 fun zc6 => zrNil zc6 <| zrO o5 fun za7 => zrA1 za7 fun zc8 => zrSl 980 0 (none) zc8 <| zrO o6 fun za9 => zrA1 za9 fun zc10 => zrB zc10 fun q2 => zrO o7 fun za11 => zrA1 za11 fun zc12 => zrI .i64 zc12 fun q3 => zrL own fun zq13 zw14 => zrKey 980 zq13 fun zk15 => zrR true 3 (.int .i64) zk15 fun q4 => zrN zw14 <| some ((q0, q1), (q2, q3, q4))
noncomputable def ins_can (st : Stt) : Stt := canA [2, 3, 8, 9, 10, 11, 12, 13, 14, 15, 16, 17, 18, 19, 20, 21, 22, 23, 24, 25, 26, 27, 28, 29, 30, 31, 32, 33, 34, 35, 36, 37, 38, 39, 40, 41, 42, 43, 44, 45, 46, 47] [⟨980, some 5, 0, 0, 3, (.int .i64)⟩] [980] [1024, 1031, 1036] 1004 st
noncomputable def ins_cok (st : Stt) : Bool := canAok [2, 3, 8, 9, 10, 11, 12, 13, 14, 15, 16, 17, 18, 19, 20, 21, 22, 23, 24, 25, 26, 27, 28, 29, 30, 31, 32, 33, 34, 35, 36, 37, 38, 39, 40, 41, 42, 43, 44, 45, 46, 47] [⟨980, some 5, 0, 0, 3, (.int .i64)⟩] [980] [1024, 1031, 1036] 1004 st
noncomputable def ins_read (st : Stt) : Option (ins_U × ins_V) := ins_rd (ins_cok st && (staysA [⟨980, some 5, 0, 0, 3, (.int .i64)⟩] [980] st.own && juAll [2, 3, 8, 9, 10, 11, 12, 13, 14, 15, 16, 17, 18, 19, 20, 21, 22, 23, 24, 25, 26, 27, 28, 29, 30, 31, 32, 33, 34, 35, 36, 37, 38, 39, 40, 41, 42, 43, 44, 45, 46, 47] (ins_can st).tm 48)) (ins_can st).tm[0]? (ins_can st).tm[1]? (ins_can st).tm[4]? (ins_can st).tm[5]? (ins_can st).tm[6]? (ins_can st).tm[7]? (ins_can st).own
set_option maxRecDepth 100000 in
set_option maxHeartbeats 4000000 in
theorem ins_rd_ok {b : Bool} {tm : List AV} {own : Own} {u : ins_U} {v : ins_V} (hj : b = true → juAll [2, 3, 8, 9, 10, 11, 12, 13, 14, 15, 16, 17, 18, 19, 20, 21, 22, 23, 24, 25, 26, 27, 28, 29, 30, 31, 32, 33, 34, 35, 36, 37, 38, 39, 40, 41, 42, 43, 44, 45, 46, 47] tm 48 = true) (h : ins_rd b tm[0]? tm[1]? tm[4]? tm[5]? tm[6]? tm[7]? own = some (u, v)) : b = true ∧ tm = (ins_St u v).tm ∧ own = (ins_St u v).own := by
  unfold ins_rd at h
  obtain ⟨rfl, h0⟩ := zrT_some h
  obtain ⟨za1, e0, h1⟩ := zrO_some h0
  obtain ⟨zc2, rfl, h2⟩ := zrA1_some h1
  obtain ⟨q0, rfl, h3⟩ := zrD_some h2
  obtain ⟨za3, e1, h4⟩ := zrO_some h3
  obtain ⟨zc4, rfl, h5⟩ := zrA1_some h4
  obtain ⟨q1, rfl, h6⟩ := zrI_some h5
  obtain ⟨za5, e4, h7⟩ := zrO_some h6
  obtain ⟨zc6, rfl, h8⟩ := zrA1_some h7
  obtain ⟨rfl, h9⟩ := zrNil_some h8
  obtain ⟨za7, e5, h10⟩ := zrO_some h9
  obtain ⟨zc8, rfl, h11⟩ := zrA1_some h10
  obtain ⟨rfl, h12⟩ := zrSl_some h11
  obtain ⟨za9, e6, h13⟩ := zrO_some h12
  obtain ⟨zc10, rfl, h14⟩ := zrA1_some h13
  obtain ⟨q2, rfl, h15⟩ := zrB_some h14
  obtain ⟨za11, e7, h16⟩ := zrO_some h15
  obtain ⟨zc12, rfl, h17⟩ := zrA1_some h16
  obtain ⟨q3, rfl, h18⟩ := zrI_some h17
  obtain ⟨zq13, zw14, rfl, h19⟩ := zrL_some h18
  obtain ⟨zk15, rfl, h20⟩ := zrKey_some h19
  obtain ⟨q4, rfl, h21⟩ := zrR_some h20
  obtain ⟨rfl, h22⟩ := zrN_some h21
  have h := Option.some.inj h22
  have hu := congrArg Prod.fst h
  have hv := congrArg Prod.snd h
  dsimp only at hu hv
  subst hu
  subst hv
  exact ⟨rfl, (tm_fill (hj rfl) (Lv := [(0, .one (.d false false (.int .i64) q0)), (1, .one (.v false (.int .i64 q1))), (4, .one (.v false (Value.slice none (0 : Nat) (0 : Nat)))), (5, .one (.s false 980 0 (none))), (6, .one (.v false (.bool q2))), (7, .one (.v false (.int .i64 q3)))]) (by kernel_rfl) ⟨e0, e1, e4, e5, e6, e7, trivial⟩).trans (by kernel_rfl), rfl⟩
theorem ins_read_ok (st : Stt) (u : ins_U) (v : ins_V) (h : ins_read st = some (u, v)) : ins_cok st = true ∧ staysA [⟨980, some 5, 0, 0, 3, (.int .i64)⟩] [980] st.own = true ∧ ins_can st = ins_St u v := by
  obtain ⟨h1, h2, h3⟩ := ins_rd_ok (fun hb => by rw [Bool.and_eq_true, Bool.and_eq_true] at hb; exact hb.2.2) h
  rw [Bool.and_eq_true, Bool.and_eq_true] at h1
  refine ⟨h1.1, h1.2.1, ?_⟩
  have e : ins_can st = ⟨(ins_can st).tm, (ins_can st).own, 1004⟩ := by kernel_rfl
  rw [e, h2, h3]
  rfl
noncomputable def ins_cond (u : ins_U) (v : ins_V) : Bool := runC (ins_step u) v
noncomputable def ins_g (u : ins_U) (v : ins_V) : Nat × ins_V := runG (ins_step u) v
theorem ins_hg : ∀ (u : ins_U) (v : ins_V), ins_cond u v = true → loopN (ins_step u) ((fun u v => runF (ins_step u) v) u v) v = some (ins_g u v) := by
  exact fun u v h => run_hg h
noncomputable def ins_m (st : Stt) : Option (Tr (Ex × Stt)) := sumM ins_read ins_cond ins_St ins_g [(0, .exit 0)] st
noncomputable def rfA_L57 : FuncId → Loops := addL 119 [0, 1, 0, 1, 1, 1] ins_m rfA_L55
set_option maxRecDepth 100000 in
set_option maxHeartbeats 4000000 in
theorem rfA_L57_ok : LoopsOK Try.prog rfA_L57 :=
  loop_sumF (body := (bodyOf Try.prog 119)) (c := (loopOf (bodyOf Try.prog 119) [1, 1, 1, 0, 1, 0])) (kinds := [.exit 0]) (allow := [(0, .exit 0)]) (St := ins_St) (step := ins_step) (W := [2, 3, 8, 9, 10, 11, 12, 13, 14, 15, 16, 17, 18, 19, 20, 21, 22, 23, 24, 25, 26, 27, 28, 29, 30, 31, 32, 33, 34, 35, 36, 37, 38, 39, 40, 41, 42, 43, 44, 45, 46, 47]) (As := [⟨980, some 5, 0, 0, 3, (.int .i64)⟩]) (ks := [980]) (dd := [1024, 1031, 1036]) (nx := 1004) (n := 100000) (g := ins_g) (cond := ins_cond) (fuel := (fun u v => runF (ins_step u) v)) (read := ins_read) (by kernel_rfl) (rfA_S56_ok) (rfA_L55_ok) 7 ⟨Try.f119, by kernel_rfl, by kernel_rfl⟩ (by kernel_rfl) (by kernel_rfl) (by kernel_rfl) ins_step_eq ins_hg ins_read_ok
theorem el_n {l : List Int} {i : Nat} (h : i < l.length) : el_i l (i : Int) = l[i] := elm_lt (t := .int .i64) h
theorem ins_run {l : List Int} {x : Int} (hn : l.length ≤ 90000) : ins_cond (l, x) (false, 0, []) = true ∧ ins_g (l, x) (false, 0, []) = (0, (leA l x, (l.length : Int), bif leA l x then insI l x else l)) := by
  have R := run_steps (step := ins_step (l, x)) (St := fun j => (leA (l.take j) x, (j : Int), bif leA (l.take j) x then insI (l.take j) x else l.take j)) (n := l.length) (t := (0, (leA l x, (l.length : Int), bif leA l x then insI l x else l))) (by
    simp only [ins_step, Tr.val, Int.lt_irrefl, decide_false, cond_false, List.take_length]) l.length 0 (Nat.zero_add _) (fun j _ hj => by
    have e1 : l.take (j + 1) = l.take j ++ [l[j]] := List.take_succ_eq_append_getElem hj
    have hl : (l.take j).length = j := by rw [List.length_take]; omega
    have h2 := insI_len (l.take j) x
    have w1 := wi1 hj (show (l.length : Int) ≤ 9223372036854775806 by omega)
    rw [e1, leA_snoc, insI_snoc]
    generalize l.take j = A at *
    cases hd : leA A x
    · obtain ⟨r1, r2⟩ := room8 (n := A.length + 1) (by omega)
      obtain ⟨r3, r4⟩ := room8 (n := (A ++ [x]).length + 1) (by simp; omega)
      simp only [ins_step, Tr.val, lt_t hj, nn_t, el_n hj, w1, r1, r2, r3, r4, hd, Bool.not_false, Bool.false_or, Bool.and_self, cond_true, cond_false]
      show _ = some (Sum.inl (decide (x ≤ l[j]), ((j + 1 : Nat) : Int), bif decide (x ≤ l[j]) then A ++ (bif decide (x ≤ l[j]) then (bif decide (x < l[j]) then x :: l[j] :: [] else l[j] :: []) else l[j] :: [x]) else A ++ [l[j]]))
      cases decide (x ≤ l[j])
      · rfl
      · cases decide (x < l[j])
        · rfl
        · simp
    · obtain ⟨r1, r2⟩ := room8 (n := (insI A x).length + 1) (by omega)
      simp only [ins_step, Tr.val, lt_t hj, nn_t, el_n hj, w1, r1, r2, hd, Bool.not_true, Bool.true_or, Bool.and_self, cond_true, cond_false])
  exact R
set_option maxRecDepth 100000 in
theorem insc_tree (l : (Ty.list (.int .i64)).den) (x : Int) : evalF Try.prog rfA_S56 (opens []) rfA_L57 9 119 [.one (.d false false (.int .i64) l), .one (.v false (.int .i64 x))] = .br (((ins_cond (l, x) (false, (0 : Int), [])) && ((Nat.beq (Prod.fst (ins_g (l, x) (false, (0 : Int), []))) (0 : Nat)) && (bif !Prod.fst (Prod.snd (ins_g (l, x) (false, (0 : Int), []))) then (decide ((List.length (Prod.snd (Prod.snd (Prod.snd (ins_g (l, x) (false, (0 : Int), []))))) + (1 : Nat)) * (8 : Nat) ≤ maxNew) && decide (List.length (Prod.snd (Prod.snd (Prod.snd (ins_g (l, x) (false, (0 : Int), []))))) + (1 : Nat) ≤ maxLen)) else true)))) (.ret (.one (.d false false (.int .i64) (bif !Prod.fst (Prod.snd (ins_g (l, x) (false, (0 : Int), []))) then Prod.snd (Prod.snd (Prod.snd (ins_g (l, x) (false, (0 : Int), [])))) ++ [x] else Prod.snd (Prod.snd (Prod.snd (ins_g (l, x) (false, (0 : Int), [])))))))) (.bad 116) := by kernel_rfl
theorem insc_val (l : (Ty.list (.int .i64)).den) (x : Int) (hc : (decide (l.length ≤ 90000)) = true) : (.br (((ins_cond (l, x) (false, (0 : Int), [])) && ((Nat.beq (Prod.fst (ins_g (l, x) (false, (0 : Int), []))) (0 : Nat)) && (bif !Prod.fst (Prod.snd (ins_g (l, x) (false, (0 : Int), []))) then (decide ((List.length (Prod.snd (Prod.snd (Prod.snd (ins_g (l, x) (false, (0 : Int), []))))) + (1 : Nat)) * (8 : Nat) ≤ maxNew) && decide (List.length (Prod.snd (Prod.snd (Prod.snd (ins_g (l, x) (false, (0 : Int), []))))) + (1 : Nat) ≤ maxLen)) else true)))) (.ret (.one (.d false false (.int .i64) (bif !Prod.fst (Prod.snd (ins_g (l, x) (false, (0 : Int), []))) then Prod.snd (Prod.snd (Prod.snd (ins_g (l, x) (false, (0 : Int), [])))) ++ [x] else Prod.snd (Prod.snd (Prod.snd (ins_g (l, x) (false, (0 : Int), [])))))))) (.bad 116) : Tr AV).val = some (.one (.d false false (.int .i64) (insI l x))) := by
  obtain ⟨K, rfl⟩ : ∃ K : List Int, K = l := ⟨l, rfl⟩
  have hn : K.length ≤ 90000 := of_decide_eq_true hc
  obtain ⟨v1, v2⟩ := ins_run (x := x) hn
  show cond _ _ _ = _
  cases hd : leA K x
  · obtain ⟨r1, r2⟩ := room8 (n := K.length + 1) (by omega)
    simp only [v1, v2, hd, r1, r2, insI_none hd, Nat.beq, Bool.not_false, Bool.and_self, cond_true, cond_false, Tr.val]
  · simp only [v1, v2, hd, Nat.beq, Bool.not_true, Bool.and_self, cond_true, cond_false, Tr.val]
noncomputable def insc_g : List AV → Option (Tr AV)
  | [.one (.d _ _ (.int .i64) l), .one (.v _ (.int .i64 x))] => some (.br (decide (l.length ≤ 90000)) (.ret (.one (.d false false (.int .i64) (insI l x)))) (.bad 900))
  | _ => none
set_option maxHeartbeats 4000000 in
theorem insc_ok : FunOK Try.prog 119 insc_g := by
  refine fun_ok (by kernel_rfl) (rfA_S56_ok) (rfA_L57_ok) 9 (On := (opens [])) (fun args t h => ?_)
  unfold insc_g at h
  split at h
  · rename_i _ _ l _ x
    simp only [Option.some.injEq] at h
    subst h
    refine ⟨[.one (.d false false (.int .i64) l), .one (.v false (.int .i64 x))], rfl, fun fr w us h => h, fun r hr => ?_⟩
    obtain ⟨hc, hr⟩ := br_bad hr
    simp only [Tr.val, Option.some.injEq] at hr
    subst hr
    rw [insc_tree]
    exact insc_val l x hc
  · cases h
noncomputable def rfA_S58 : Sums := addS 119 insc_g rfA_S56
theorem rfA_S58_ok : SumOK Try.prog rfA_S58 := addS_ok (insc_ok) (rfA_S56_ok)
noncomputable def bnd_St (u : fi_U) (v : ins_U) : Stt := ⟨[.one (.d false false (.prod (.int .i64) (.int .i64)) u), .one .junk, .one (.v false (Value.slice none (0 : Nat) (0 : Nat))), .one (.d false false (.int .i64) v.1), .one (.v false (.int .i64 v.2)), .one .junk, .one .junk, .one .junk, .one .junk, .one .junk, .one .junk, .one .junk, .one .junk, .one .junk, .one .junk, .one .junk, .one .junk, .one .junk, .one .junk, .one .junk, .one .junk, .one .junk, .one .junk, .one .junk, .one .junk, .one .junk, .one .junk, .one .junk, .one .junk, .one .junk, .one .junk, .one .junk, .one .junk, .one .junk, .one .junk, .one .junk, .one .junk], [], 1003⟩
noncomputable def bnd_step (u : fi_U) (v : ins_U) : Tr (ins_U ⊕ (Nat × ins_U)) :=
  match u, v with
  | q0, (q1, q2) => .br (decide (q2 < (↑(List.length q0) : Int))) (.br (decide ((0 : Int) ≤ q2) && decide (q2 < (↑(List.length q0) : Int))) (.br (decide ((0 : Int) ≤ q2) && decide (q2 < (↑(List.length q0) : Int))) (.br (decide (Prod.fst (el_ii q0 q2) < Prod.snd (el_ii q0 q2))) (.br (decide ((0 : Int) ≤ q2) && decide (q2 < (↑(List.length q0) : Int))) (.br (decide (List.length q1 ≤ (90000 : Nat))) (.br (decide ((0 : Int) ≤ q2) && decide (q2 < (↑(List.length q0) : Int))) (.br (decide (List.length (insI q1 (Prod.fst (el_ii q0 q2))) ≤ (90000 : Nat))) (.ret (.inl (insI (insI q1 (Prod.fst (el_ii q0 q2))) (Prod.snd (el_ii q0 q2)), IntKind.wrap .i64 (q2 + (1 : Int))))) (.bad 900)) (.bad 29)) (.bad 900)) (.bad 29)) (.ret (.inl (q1, IntKind.wrap .i64 (q2 + (1 : Int)))))) (.bad 29)) (.bad 29)) (.ret (.inr (0, (q1, q2))))
set_option maxRecDepth 100000 in
set_option maxHeartbeats 4000000 in
theorem bnd_step_eq : ∀ (u : fi_U) (v : ins_U), (evalC Try.prog (evalB Try.prog rfA_S58 (opens []) rfA_L57 7).1 (evalB Try.prog rfA_S58 (opens []) rfA_L57 7).2 (opens []) (rfA_L57 104) 100000 (0 :: [0, 1, 0, 1, 1]) (loopOf (bodyOf Try.prog 104) [1, 1, 0, 1, 0]) (bnd_St u v) []).bind (finF [1, 5, 6, 7, 8, 9, 10, 11, 12, 13, 14, 15, 16, 17, 18, 19, 20, 21, 22, 23, 24, 25, 26, 27, 28, 29, 30, 31, 32, 33, 34, 35, 36] [⟨100003, some 3, 0, 0, 0, (.int .i64)⟩] [] [] 1003) = (bnd_step u v).bind (outA (bnd_St u) [.exit 0]) := by
  rintro q0 ⟨q1, q2⟩
  kernel_rfl
noncomputable def bnd_rd (b : Bool) (o0 : Option AV) (o2 : Option AV) (o3 : Option AV) (o4 : Option AV) (own : Own) : Option (fi_U × ins_U) := zrT b <| zrO o0 fun za1 => zrA1 za1 fun zc2 => zrD (.prod (.int .i64) (.int .i64)) zc2 fun q0 => zrO o2 fun za3 => zrA1 za3 fun zc4 => zrNil zc4 <| zrO o3 fun za5 => zrA1 za5 fun zc6 => zrD (.int .i64) zc6 fun q1 => zrO o4 fun za7 => zrA1 za7 fun zc8 => zrI .i64 zc8 fun q2 => zrN own <| some (q0, (q1, q2))
noncomputable def bnd_can (st : Stt) : Stt := canA [1, 5, 6, 7, 8, 9, 10, 11, 12, 13, 14, 15, 16, 17, 18, 19, 20, 21, 22, 23, 24, 25, 26, 27, 28, 29, 30, 31, 32, 33, 34, 35, 36] [⟨100003, some 3, 0, 0, 0, (.int .i64)⟩] [] [] 1003 st
noncomputable def bnd_cok (st : Stt) : Bool := canAok [1, 5, 6, 7, 8, 9, 10, 11, 12, 13, 14, 15, 16, 17, 18, 19, 20, 21, 22, 23, 24, 25, 26, 27, 28, 29, 30, 31, 32, 33, 34, 35, 36] [⟨100003, some 3, 0, 0, 0, (.int .i64)⟩] [] [] 1003 st
noncomputable def bnd_read (st : Stt) : Option (fi_U × ins_U) := bnd_rd (bnd_cok st && (staysA [⟨100003, some 3, 0, 0, 0, (.int .i64)⟩] [] st.own && juAll [1, 5, 6, 7, 8, 9, 10, 11, 12, 13, 14, 15, 16, 17, 18, 19, 20, 21, 22, 23, 24, 25, 26, 27, 28, 29, 30, 31, 32, 33, 34, 35, 36] (bnd_can st).tm 37)) (bnd_can st).tm[0]? (bnd_can st).tm[2]? (bnd_can st).tm[3]? (bnd_can st).tm[4]? (bnd_can st).own
set_option maxRecDepth 100000 in
set_option maxHeartbeats 4000000 in
theorem bnd_rd_ok {b : Bool} {tm : List AV} {own : Own} {u : fi_U} {v : ins_U} (hj : b = true → juAll [1, 5, 6, 7, 8, 9, 10, 11, 12, 13, 14, 15, 16, 17, 18, 19, 20, 21, 22, 23, 24, 25, 26, 27, 28, 29, 30, 31, 32, 33, 34, 35, 36] tm 37 = true) (h : bnd_rd b tm[0]? tm[2]? tm[3]? tm[4]? own = some (u, v)) : b = true ∧ tm = (bnd_St u v).tm ∧ own = (bnd_St u v).own := by
  unfold bnd_rd at h
  obtain ⟨rfl, h0⟩ := zrT_some h
  obtain ⟨za1, e0, h1⟩ := zrO_some h0
  obtain ⟨zc2, rfl, h2⟩ := zrA1_some h1
  obtain ⟨q0, rfl, h3⟩ := zrD_some h2
  obtain ⟨za3, e2, h4⟩ := zrO_some h3
  obtain ⟨zc4, rfl, h5⟩ := zrA1_some h4
  obtain ⟨rfl, h6⟩ := zrNil_some h5
  obtain ⟨za5, e3, h7⟩ := zrO_some h6
  obtain ⟨zc6, rfl, h8⟩ := zrA1_some h7
  obtain ⟨q1, rfl, h9⟩ := zrD_some h8
  obtain ⟨za7, e4, h10⟩ := zrO_some h9
  obtain ⟨zc8, rfl, h11⟩ := zrA1_some h10
  obtain ⟨q2, rfl, h12⟩ := zrI_some h11
  obtain ⟨rfl, h13⟩ := zrN_some h12
  have h := Option.some.inj h13
  have hu := congrArg Prod.fst h
  have hv := congrArg Prod.snd h
  dsimp only at hu hv
  subst hu
  subst hv
  exact ⟨rfl, (tm_fill (hj rfl) (Lv := [(0, .one (.d false false (.prod (.int .i64) (.int .i64)) q0)), (2, .one (.v false (Value.slice none (0 : Nat) (0 : Nat)))), (3, .one (.d false false (.int .i64) q1)), (4, .one (.v false (.int .i64 q2)))]) (by kernel_rfl) ⟨e0, e2, e3, e4, trivial⟩).trans (by kernel_rfl), rfl⟩
theorem bnd_read_ok (st : Stt) (u : fi_U) (v : ins_U) (h : bnd_read st = some (u, v)) : bnd_cok st = true ∧ staysA [⟨100003, some 3, 0, 0, 0, (.int .i64)⟩] [] st.own = true ∧ bnd_can st = bnd_St u v := by
  obtain ⟨h1, h2, h3⟩ := bnd_rd_ok (fun hb => by rw [Bool.and_eq_true, Bool.and_eq_true] at hb; exact hb.2.2) h
  rw [Bool.and_eq_true, Bool.and_eq_true] at h1
  refine ⟨h1.1, h1.2.1, ?_⟩
  have e : bnd_can st = ⟨(bnd_can st).tm, (bnd_can st).own, 1003⟩ := by kernel_rfl
  rw [e, h2, h3]
  rfl
noncomputable def bnd_cond (u : fi_U) (v : ins_U) : Bool := runC (bnd_step u) v
noncomputable def bnd_g (u : fi_U) (v : ins_U) : Nat × ins_U := runG (bnd_step u) v
theorem bnd_hg : ∀ (u : fi_U) (v : ins_U), bnd_cond u v = true → loopN (bnd_step u) ((fun u v => runF (bnd_step u) v) u v) v = some (bnd_g u v) := by
  exact fun u v h => run_hg h
noncomputable def bnd_m (st : Stt) : Option (Tr (Ex × Stt)) := sumM bnd_read bnd_cond bnd_St bnd_g [(0, .exit 0)] st
noncomputable def rfA_L59 : FuncId → Loops := addL 104 [0, 1, 0, 1, 1] bnd_m rfA_L57
set_option maxRecDepth 100000 in
set_option maxHeartbeats 4000000 in
theorem rfA_L59_ok : LoopsOK Try.prog rfA_L59 :=
  loop_sumF (body := (bodyOf Try.prog 104)) (c := (loopOf (bodyOf Try.prog 104) [1, 1, 0, 1, 0])) (kinds := [.exit 0]) (allow := [(0, .exit 0)]) (St := bnd_St) (step := bnd_step) (W := [1, 5, 6, 7, 8, 9, 10, 11, 12, 13, 14, 15, 16, 17, 18, 19, 20, 21, 22, 23, 24, 25, 26, 27, 28, 29, 30, 31, 32, 33, 34, 35, 36]) (As := [⟨100003, some 3, 0, 0, 0, (.int .i64)⟩]) (ks := []) (dd := []) (nx := 1003) (n := 100000) (g := bnd_g) (cond := bnd_cond) (fuel := (fun u v => runF (bnd_step u) v)) (read := bnd_read) (by kernel_rfl) (rfA_S58_ok) (rfA_L57_ok) 7 ⟨Try.f104, by kernel_rfl, by kernel_rfl⟩ (by kernel_rfl) (by kernel_rfl) (by kernel_rfl) bnd_step_eq bnd_hg bnd_read_ok
theorem bnd_run {L : Rl} (hn : L.length ≤ 10000) : bnd_cond L ([], 0) = true ∧ bnd_g L ([], 0) = (0, (bsR L, (L.length : Int))) := by
  have R := run_steps (step := bnd_step L) (St := fun j => (bsR (L.take j), (j : Int))) (n := L.length) (t := (0, (bsR L, (L.length : Int)))) (by
    simp only [bnd_step, Tr.val, Int.lt_irrefl, decide_false, cond_false, List.take_length]) L.length 0 (Nat.zero_add _) (fun j _ hj => by
    have hl := bsR_len (L.take j)
    rw [List.length_take] at hl
    have h2 := insI_len (bsR (L.take j)) L[j].1
    have c1 : decide ((bsR (L.take j)).length ≤ 90000) = true := decide_eq_true (by omega)
    have c2 : decide ((insI (bsR (L.take j)) L[j].1).length ≤ 90000) = true := decide_eq_true (by omega)
    rw [bsR_take hj]
    unfold bstR
    simp only [bnd_step, Tr.val, lt_t hj, nn_t, el_r hj, c1, c2, wi1 hj (show (L.length : Int) ≤ 9223372036854775806 by omega), Bool.and_self, cond_true]
    cases decide (L[j].1 < L[j].2) <;> rfl)
  exact R
set_option maxRecDepth 100000 in
theorem bndc_tree (L : (Ty.list (.prod (.int .i64) (.int .i64))).den) : evalF Try.prog rfA_S58 (opens []) rfA_L59 9 104 [.one (.d false false (.prod (.int .i64) (.int .i64)) L)] = .br (((bnd_cond L ([], (0 : Int))) && (Nat.beq (Prod.fst (bnd_g L ([], (0 : Int)))) (0 : Nat)))) (.ret (.one (.d false false (.int .i64) (Prod.fst (Prod.snd (bnd_g L ([], (0 : Int)))))))) (.bad 116) := by kernel_rfl
theorem bndc_val (L : (Ty.list (.prod (.int .i64) (.int .i64))).den) (hc : (decide (L.length ≤ 10000)) = true) : (.br (((bnd_cond L ([], (0 : Int))) && (Nat.beq (Prod.fst (bnd_g L ([], (0 : Int)))) (0 : Nat)))) (.ret (.one (.d false false (.int .i64) (Prod.fst (Prod.snd (bnd_g L ([], (0 : Int)))))))) (.bad 116) : Tr AV).val = some (.one (.d false false (.int .i64) (bsR L))) := by
  have hn := of_decide_eq_true hc
  obtain ⟨v1, v2⟩ := bnd_run hn
  show cond _ _ _ = _
  simp [v1, v2, Nat.beq, Tr.val]
noncomputable def bndc_g : List AV → Option (Tr AV)
  | [.one (.d _ _ (.prod (.int .i64) (.int .i64)) L)] => some (.br (decide (L.length ≤ 10000)) (.ret (.one (.d false false (.int .i64) (bsR L)))) (.bad 900))
  | _ => none
set_option maxHeartbeats 4000000 in
theorem bndc_ok : FunOK Try.prog 104 bndc_g := by
  refine fun_ok (by kernel_rfl) (rfA_S58_ok) (rfA_L59_ok) 9 (On := (opens [])) (fun args t h => ?_)
  unfold bndc_g at h
  split at h
  · rename_i _ _ L
    simp only [Option.some.injEq] at h
    subst h
    refine ⟨[.one (.d false false (.prod (.int .i64) (.int .i64)) L)], rfl, fun fr w us h => h, fun r hr => ?_⟩
    obtain ⟨hc, hr⟩ := br_bad hr
    simp only [Tr.val, Option.some.injEq] at hr
    subst hr
    rw [bndc_tree]
    exact bndc_val L hc
  · cases h
noncomputable def rfA_S60 : Sums := addS 104 bndc_g rfA_S58
theorem rfA_S60_ok : SumOK Try.prog rfA_S60 := addS_ok (bndc_ok) (rfA_S58_ok)
abbrev nml_U : Type := (Ty.list (.prod (.int .i64) (.int .i64))).den × (Ty.list (.int .i64)).den
noncomputable def nml_St (u : nml_U) (v : mov_V) : Stt := ⟨[.one (.d false false (.prod (.int .i64) (.int .i64)) u.1), .one .junk, .one (.v false (Value.slice none (0 : Nat) (0 : Nat))), .one (.d false false (.int .i64) u.2), .one (.s false 980 0 (none)), .one (.v false (.int .i64 v.1)), .one .junk, .one .junk, .one .junk, .one .junk, .one .junk, .one .junk, .one .junk, .one .junk, .one .junk, .one .junk, .one .junk, .one .junk, .one .junk, .one .junk, .one .junk, .one .junk, .one .junk, .one .junk, .one .junk, .one .junk, .one .junk, .one .junk, .one .junk, .one .junk, .one .junk, .one .junk, .one .junk], [(980, .row true false false 69 (.prod (.int .i64) (.int .i64)) v.2)], 1006⟩
noncomputable def nml_step (u : nml_U) (v : mov_V) : Tr (mov_V ⊕ (Nat × mov_V)) :=
  match u, v with
  | (q0, q1), (q2, q3) => .br (decide (IntKind.wrap .i64 (q2 + (1 : Int)) < (↑(List.length q1) : Int))) (.br (decide ((0 : Int) ≤ q2) && decide (q2 < (↑(List.length q1) : Int))) (.br (decide (List.length q0 ≤ (100000 : Nat))) (.br (memB q0 (el_i q1 q2)) (.br (decide ((0 : Int) ≤ q2) && decide (q2 < (↑(List.length q1) : Int))) (.br (decide ((0 : Int) ≤ IntKind.wrap .i64 (q2 + (1 : Int))) && decide (IntKind.wrap .i64 (q2 + (1 : Int)) < (↑(List.length q1) : Int))) (.br ((bif decide ((↑(List.length q3) : Int) > (0 : Int)) then ((decide ((0 : Int) ≤ IntKind.wrap .i64 ((↑(List.length q3) : Int) - (1 : Int))) && decide (IntKind.wrap .i64 ((↑(List.length q3) : Int) - (1 : Int)) < (↑(List.length q3) : Int))) && (decide (Int.toNat (IntKind.wrap .i64 ((↑(List.length q3) : Int) - (1 : Int))) < List.length q3))) else true)) (.br (bif decide ((↑(List.length q3) : Int) > (0 : Int)) then Prod.snd (el_ii q3 (IntKind.wrap .i64 ((↑(List.length q3) : Int) - (1 : Int)))) == el_i q1 q2 else false) (.br (decide ((0 : Int) ≤ (0 : Int)) && decide ((0 : Int) ≤ IntKind.wrap .i64 ((↑(List.length q3) : Int) - (1 : Int))) && decide (IntKind.wrap .i64 ((↑(List.length q3) : Int) - (1 : Int)) ≤ (↑(List.length q3) : Int))) (.br (decide (((0 : Nat) + List.length (cut q3 (newLo none (0 : Nat) (0 : Int)) (newHi (some (Operand.tmp (26 : Nat))) none (0 : Int) (IntKind.wrap .i64 ((↑(List.length q3) : Int) - (1 : Int)))))) * (16 : Nat) ≤ maxNew) && decide ((0 : Nat) + List.length (cut q3 (newLo none (0 : Nat) (0 : Int)) (newHi (some (Operand.tmp (26 : Nat))) none (0 : Int) (IntKind.wrap .i64 ((↑(List.length q3) : Int) - (1 : Int))))) ≤ maxLen)) (.br (decide ((0 : Int) ≤ IntKind.wrap .i64 ((↑(List.length q3) : Int) - (1 : Int))) && decide (IntKind.wrap .i64 ((↑(List.length q3) : Int) - (1 : Int)) < (↑(List.length q3) : Int))) (.br (decide (Int.toNat (IntKind.wrap .i64 ((↑(List.length q3) : Int) - (1 : Int))) < List.length q3)) (.br (decide ((List.length (cut q3 (newLo none (0 : Nat) (0 : Int)) (newHi (some (Operand.tmp (26 : Nat))) none (0 : Int) (IntKind.wrap .i64 ((↑(List.length q3) : Int) - (1 : Int))))) + (1 : Nat)) * (16 : Nat) ≤ maxNew) && decide (List.length (cut q3 (newLo none (0 : Nat) (0 : Int)) (newHi (some (Operand.tmp (26 : Nat))) none (0 : Int) (IntKind.wrap .i64 ((↑(List.length q3) : Int) - (1 : Int))))) + (1 : Nat) ≤ maxLen)) (.ret (.inl (IntKind.wrap .i64 (q2 + (1 : Int)), cut q3 (newLo none (0 : Nat) (0 : Int)) (newHi (some (Operand.tmp (26 : Nat))) none (0 : Int) (IntKind.wrap .i64 ((↑(List.length q3) : Int) - (1 : Int)))) ++ [(Prod.fst (el_ii q3 (IntKind.wrap .i64 ((↑(List.length q3) : Int) - (1 : Int)))), el_i q1 (IntKind.wrap .i64 (q2 + (1 : Int))))]))) (.bad 71)) (.bad 12)) (.bad 31)) (.bad 71)) (.bad 67)) (.br (decide ((List.length q3 + (1 : Nat)) * (16 : Nat) ≤ maxNew) && decide (List.length q3 + (1 : Nat) ≤ maxLen)) (.ret (.inl (IntKind.wrap .i64 (q2 + (1 : Int)), q3 ++ [(el_i q1 q2, el_i q1 (IntKind.wrap .i64 (q2 + (1 : Int))))]))) (.bad 71))) (.bad 117)) (.bad 29)) (.bad 29)) (.ret (.inl (IntKind.wrap .i64 (q2 + (1 : Int)), q3)))) (.bad 900)) (.bad 29)) (.ret (.inr (0, (q2, q3))))
set_option maxRecDepth 100000 in
set_option maxHeartbeats 4000000 in
theorem nml_step_eq : ∀ (u : nml_U) (v : mov_V), (evalC Try.prog (evalB Try.prog rfA_S60 (opens [106]) rfA_L59 7).1 (evalB Try.prog rfA_S60 (opens [106]) rfA_L59 7).2 (opens [106]) (rfA_L59 86) 100000 (0 :: [0, 1, 0, 1, 1, 1]) (loopOf (bodyOf Try.prog 86) [1, 1, 1, 0, 1, 0]) (nml_St u v) []).bind (finF [1, 6, 7, 8, 9, 10, 11, 12, 13, 14, 15, 16, 17, 18, 19, 20, 21, 22, 23, 24, 25, 26, 27, 28, 29, 30, 31, 32] [⟨980, some 4, 0, 0, 69, (.prod (.int .i64) (.int .i64))⟩] [980] [1028020, 1028034] 1006) = (nml_step u v).bind (outA (nml_St u) [.exit 0]) := by
  rintro ⟨q0, q1⟩ ⟨q2, q3⟩
  kernel_rfl
noncomputable def nml_rd (b : Bool) (o0 : Option AV) (o2 : Option AV) (o3 : Option AV) (o4 : Option AV) (o5 : Option AV) (own : Own) : Option (nml_U × mov_V) := zrT b <| zrO o0 fun za1 => zrA1 za1 fun zc2 => zrD (.prod (.int .i64) (.int .i64)) zc2 fun q0 => zrO o2 fun za3 => zrA1 za3 fun zc4 => zrNil zc4 <| zrO o3 fun za5 => zrA1 za5 fun zc6 => zrD (.int .i64) zc6 fun q1 => zrO o4 fun za7 => zrA1 za7 fun zc8 => zrSl 980 0 (none) zc8 <| zrO o5 fun za9 => zrA1 za9 fun zc10 => zrI .i64 zc10 fun q2 => zrL own fun zq11 zw12 => zrKey 980 zq11 fun zk13 => zrR true 69 (.prod (.int .i64) (.int .i64)) zk13 fun q3 => zrN zw12 <| some ((q0, q1), (q2, q3))
noncomputable def nml_can (st : Stt) : Stt := canA [1, 6, 7, 8, 9, 10, 11, 12, 13, 14, 15, 16, 17, 18, 19, 20, 21, 22, 23, 24, 25, 26, 27, 28, 29, 30, 31, 32] [⟨980, some 4, 0, 0, 69, (.prod (.int .i64) (.int .i64))⟩] [980] [1028020, 1028034] 1006 st
noncomputable def nml_cok (st : Stt) : Bool := canAok [1, 6, 7, 8, 9, 10, 11, 12, 13, 14, 15, 16, 17, 18, 19, 20, 21, 22, 23, 24, 25, 26, 27, 28, 29, 30, 31, 32] [⟨980, some 4, 0, 0, 69, (.prod (.int .i64) (.int .i64))⟩] [980] [1028020, 1028034] 1006 st
noncomputable def nml_read (st : Stt) : Option (nml_U × mov_V) := nml_rd (nml_cok st && (staysA [⟨980, some 4, 0, 0, 69, (.prod (.int .i64) (.int .i64))⟩] [980] st.own && juAll [1, 6, 7, 8, 9, 10, 11, 12, 13, 14, 15, 16, 17, 18, 19, 20, 21, 22, 23, 24, 25, 26, 27, 28, 29, 30, 31, 32] (nml_can st).tm 33)) (nml_can st).tm[0]? (nml_can st).tm[2]? (nml_can st).tm[3]? (nml_can st).tm[4]? (nml_can st).tm[5]? (nml_can st).own
set_option maxRecDepth 100000 in
set_option maxHeartbeats 4000000 in
theorem nml_rd_ok {b : Bool} {tm : List AV} {own : Own} {u : nml_U} {v : mov_V} (hj : b = true → juAll [1, 6, 7, 8, 9, 10, 11, 12, 13, 14, 15, 16, 17, 18, 19, 20, 21, 22, 23, 24, 25, 26, 27, 28, 29, 30, 31, 32] tm 33 = true) (h : nml_rd b tm[0]? tm[2]? tm[3]? tm[4]? tm[5]? own = some (u, v)) : b = true ∧ tm = (nml_St u v).tm ∧ own = (nml_St u v).own := by
  unfold nml_rd at h
  obtain ⟨rfl, h0⟩ := zrT_some h
  obtain ⟨za1, e0, h1⟩ := zrO_some h0
  obtain ⟨zc2, rfl, h2⟩ := zrA1_some h1
  obtain ⟨q0, rfl, h3⟩ := zrD_some h2
  obtain ⟨za3, e2, h4⟩ := zrO_some h3
  obtain ⟨zc4, rfl, h5⟩ := zrA1_some h4
  obtain ⟨rfl, h6⟩ := zrNil_some h5
  obtain ⟨za5, e3, h7⟩ := zrO_some h6
  obtain ⟨zc6, rfl, h8⟩ := zrA1_some h7
  obtain ⟨q1, rfl, h9⟩ := zrD_some h8
  obtain ⟨za7, e4, h10⟩ := zrO_some h9
  obtain ⟨zc8, rfl, h11⟩ := zrA1_some h10
  obtain ⟨rfl, h12⟩ := zrSl_some h11
  obtain ⟨za9, e5, h13⟩ := zrO_some h12
  obtain ⟨zc10, rfl, h14⟩ := zrA1_some h13
  obtain ⟨q2, rfl, h15⟩ := zrI_some h14
  obtain ⟨zq11, zw12, rfl, h16⟩ := zrL_some h15
  obtain ⟨zk13, rfl, h17⟩ := zrKey_some h16
  obtain ⟨q3, rfl, h18⟩ := zrR_some h17
  obtain ⟨rfl, h19⟩ := zrN_some h18
  have h := Option.some.inj h19
  have hu := congrArg Prod.fst h
  have hv := congrArg Prod.snd h
  dsimp only at hu hv
  subst hu
  subst hv
  exact ⟨rfl, (tm_fill (hj rfl) (Lv := [(0, .one (.d false false (.prod (.int .i64) (.int .i64)) q0)), (2, .one (.v false (Value.slice none (0 : Nat) (0 : Nat)))), (3, .one (.d false false (.int .i64) q1)), (4, .one (.s false 980 0 (none))), (5, .one (.v false (.int .i64 q2)))]) (by kernel_rfl) ⟨e0, e2, e3, e4, e5, trivial⟩).trans (by kernel_rfl), rfl⟩
theorem nml_read_ok (st : Stt) (u : nml_U) (v : mov_V) (h : nml_read st = some (u, v)) : nml_cok st = true ∧ staysA [⟨980, some 4, 0, 0, 69, (.prod (.int .i64) (.int .i64))⟩] [980] st.own = true ∧ nml_can st = nml_St u v := by
  obtain ⟨h1, h2, h3⟩ := nml_rd_ok (fun hb => by rw [Bool.and_eq_true, Bool.and_eq_true] at hb; exact hb.2.2) h
  rw [Bool.and_eq_true, Bool.and_eq_true] at h1
  refine ⟨h1.1, h1.2.1, ?_⟩
  have e : nml_can st = ⟨(nml_can st).tm, (nml_can st).own, 1006⟩ := by kernel_rfl
  rw [e, h2, h3]
  rfl
noncomputable def nml_cond (u : nml_U) (v : mov_V) : Bool := runC (nml_step u) v
noncomputable def nml_g (u : nml_U) (v : mov_V) : Nat × mov_V := runG (nml_step u) v
theorem nml_hg : ∀ (u : nml_U) (v : mov_V), nml_cond u v = true → loopN (nml_step u) ((fun u v => runF (nml_step u) v) u v) v = some (nml_g u v) := by
  exact fun u v h => run_hg h
noncomputable def nml_m (st : Stt) : Option (Tr (Ex × Stt)) := sumM nml_read nml_cond nml_St nml_g [(0, .exit 0)] st
noncomputable def rfA_L61 : FuncId → Loops := addL 86 [0, 1, 0, 1, 1, 1] nml_m rfA_L59
set_option maxRecDepth 100000 in
set_option maxHeartbeats 4000000 in
theorem rfA_L61_ok : LoopsOK Try.prog rfA_L61 :=
  loop_sumF (body := (bodyOf Try.prog 86)) (c := (loopOf (bodyOf Try.prog 86) [1, 1, 1, 0, 1, 0])) (kinds := [.exit 0]) (allow := [(0, .exit 0)]) (St := nml_St) (step := nml_step) (W := [1, 6, 7, 8, 9, 10, 11, 12, 13, 14, 15, 16, 17, 18, 19, 20, 21, 22, 23, 24, 25, 26, 27, 28, 29, 30, 31, 32]) (As := [⟨980, some 4, 0, 0, 69, (.prod (.int .i64) (.int .i64))⟩]) (ks := [980]) (dd := [1028020, 1028034]) (nx := 1006) (n := 100000) (g := nml_g) (cond := nml_cond) (fuel := (fun u v => runF (nml_step u) v)) (read := nml_read) (by kernel_rfl) (rfA_S60_ok) (rfA_L59_ok) 7 ⟨Try.f86, by kernel_rfl, by kernel_rfl⟩ (by kernel_rfl) (by kernel_rfl) (by kernel_rfl) nml_step_eq nml_hg nml_read_ok
theorem cutP {acc : Rl} {n : Nat} : cut acc (newLo none (0 : Nat) (0 : Int)) (newHi (some (Operand.tmp (26 : Nat))) none (0 : Int) (n : Int)) = acc.take n := by
  simp [cut, newLo, newHi]
set_option maxHeartbeats 4000000 in
theorem nml_run {L : Rl} {bs : List Int} (hasc : asc bs) (hn : L.length ≤ 10000) (hb : bs.length ≤ 20000) : nml_cond (L, bs) (0, []) = true ∧ nml_g (L, bs) (0, []) = (0, (((bs.length - 1 : Nat) : Int), mrgR (seg (memB L) bs))) := by
  have R := run_steps (step := nml_step (L, bs)) (St := fun j => ((j : Int), upR (memB L) bs j)) (n := bs.length - 1) (t := (0, (((bs.length - 1 : Nat) : Int), mrgR (seg (memB L) bs)))) (by
    have w : decide (IntKind.wrap .i64 (((bs.length - 1 : Nat) : Int) + (1 : Int)) < (bs.length : Int)) = false := by rw [wid (by omega) (by omega)]; exact decide_eq_false (by omega)
    simp only [nml_step, Tr.val, w, cond_false, upR_last]) (bs.length - 1) 0 (Nat.zero_add _) (fun j _ hj => by
    have c1 : decide (L.length ≤ 100000) = true := decide_eq_true (by omega)
    have hu := upR_len (memB L) bs j
    have hj1 : j < bs.length := by omega
    have w1 : IntKind.wrap .i64 ((j : Int) + (1 : Int)) = ((j + 1 : Nat) : Int) := wi1 hj1 (by omega)
    have hj2 : j + 1 < bs.length := by omega
    rw [upR_succ (memB L) hasc hj2]
    generalize upR (memB L) bs j = acc at *
    skip
    cases hf : (memB L) bs[j]
    · have hf' := hf
      simp only [nml_step, Tr.val, w1, lt_t hj1, lt_t hj2, nn_t, el_n hj1, c1, hf', Bool.and_self, cond_true, cond_false]
    · have hf' := hf
      cases hc : acc.length with
      | zero =>
        have e : acc = [] := List.length_eq_zero_iff.1 hc
        subst e
        have d1 : decide (((0 : Nat) : Int) > (0 : Int)) = false := rfl
        obtain ⟨r1, r2⟩ := room16 (n := 0 + 1) (by omega)
        simp only [nml_step, Tr.val, w1, lt_t hj1, lt_t hj2, nn_t, el_n hj1, el_n hj2, c1, hf', List.length_nil, d1, r1, r2, Bool.and_self, cond_true, cond_false]
        rfl
      | succ n =>
        have hlt : n < acc.length := by omega
        have e1 : IntKind.wrap .i64 (((n + 1 : Nat) : Int) - (1 : Int)) = (n : Int) := by rw [wid (by omega) (by omega)]; omega
        have d1 : decide (((n + 1 : Nat) : Int) > (0 : Int)) = true := decide_eq_true (by omega)
        have d2 : decide ((n : Int) < ((n + 1 : Nat) : Int)) = true := decide_eq_true (by omega)
        have d3 : decide (n < n + 1) = true := decide_eq_true (by omega)
        have d4 : decide ((n : Int) ≤ ((n + 1 : Nat) : Int)) = true := decide_eq_true (by omega)
        have d5 : decide ((0 : Int) ≤ (0 : Int)) = true := rfl
        have el : lastR acc = acc[n] := by
          unfold lastR
          rw [hc, List.getD, Nat.add_sub_cancel, List.getElem?_eq_getElem hlt]; rfl
        have d6 : decide (0 < n + 1) = true := decide_eq_true (by omega)
        have tl : (acc.take n).length = n := by rw [List.length_take]; omega
        obtain ⟨r1, r2⟩ := room16 (n := n) (by omega)
        obtain ⟨r3, r4⟩ := room16 (n := n + 1) (by omega)
        obtain ⟨r5, r6⟩ := room16 (n := n + 1 + 1) (by omega)
        unfold putR
        rw [el, hc, d6]
        simp only [nml_step, Tr.val, w1, lt_t hj1, lt_t hj2, nn_t, el_n hj1, el_n hj2, c1, hf', hc, e1, d1, d2, d3, d4, d5, el_r hlt, cutP, tl, Nat.zero_add, r1, r2, r3, r4, r5, r6, Int.toNat_natCast, Bool.and_self, cond_true, Nat.add_sub_cancel]
        cases acc[n].2 == bs[j] <;> rfl)
  rw [upR_zero] at R
  exact R
set_option maxRecDepth 100000 in
theorem nmlc_tree (L : (Ty.list (.prod (.int .i64) (.int .i64))).den) : evalF Try.prog rfA_S60 (opens [106]) rfA_L61 9 86 [.one (.d false false (.prod (.int .i64) (.int .i64)) L)] = .br (((decide (List.length L ≤ (10000 : Nat))) && ((nml_cond (L, bsR L) ((0 : Int), [])) && (Nat.beq (Prod.fst (nml_g (L, bsR L) ((0 : Int), []))) (0 : Nat))))) (.ret (.one (.d false false (.prod (.int .i64) (.int .i64)) (Prod.snd (Prod.snd (nml_g (L, bsR L) ((0 : Int), []))))))) (.bad 116) := by kernel_rfl
theorem nmlc_val (L : (Ty.list (.prod (.int .i64) (.int .i64))).den) (hc : (decide (L.length ≤ 10000)) = true) : (.br (((decide (List.length L ≤ (10000 : Nat))) && ((nml_cond (L, bsR L) ((0 : Int), [])) && (Nat.beq (Prod.fst (nml_g (L, bsR L) ((0 : Int), []))) (0 : Nat))))) (.ret (.one (.d false false (.prod (.int .i64) (.int .i64)) (Prod.snd (Prod.snd (nml_g (L, bsR L) ((0 : Int), []))))))) (.bad 116) : Tr AV).val = some (.one (.d false false (.prod (.int .i64) (.int .i64)) (nfR (memR L)))) := by
  obtain ⟨K, rfl⟩ : ∃ K : Rl, K = L := ⟨L, rfl⟩
  have hn : K.length ≤ 10000 := of_decide_eq_true hc
  have hb := bsR_len K
  obtain ⟨v1, v2⟩ := nml_run (L := K) (bsR_asc K) hn (by omega)
  rw [← nml_nf]
  show cond _ _ _ = _
  simp only [hc, v1, v2, Nat.beq, Bool.and_self, cond_true, Tr.val]
noncomputable def nmlc_g : List AV → Option (Tr AV)
  | [.one (.d _ _ (.prod (.int .i64) (.int .i64)) L)] => some (.br (decide (L.length ≤ 10000)) (.ret (.one (.d false false (.prod (.int .i64) (.int .i64)) (nfR (memR L))))) (.bad 900))
  | _ => none
set_option maxHeartbeats 4000000 in
theorem nmlc_ok : FunOK Try.prog 86 nmlc_g := by
  refine fun_ok (by kernel_rfl) (rfA_S60_ok) (rfA_L61_ok) 9 (On := (opens [106])) (fun args t h => ?_)
  unfold nmlc_g at h
  split at h
  · rename_i _ _ L
    simp only [Option.some.injEq] at h
    subst h
    refine ⟨[.one (.d false false (.prod (.int .i64) (.int .i64)) L)], rfl, fun fr w us h => h, fun r hr => ?_⟩
    obtain ⟨hc, hr⟩ := br_bad hr
    simp only [Tr.val, Option.some.injEq] at hr
    subst hr
    rw [nmlc_tree]
    exact nmlc_val L hc
  · cases h
noncomputable def rfA_S62 : Sums := addS 86 nmlc_g rfA_S60
theorem rfA_S62_ok : SumOK Try.prog rfA_S62 := addS_ok (nmlc_ok) (rfA_S60_ok)
noncomputable def rfA_L63 : FuncId → Loops := rfA_L61
set_option maxRecDepth 100000 in
set_option maxHeartbeats 4000000 in
theorem rfA_L63_ok : LoopsOK Try.prog rfA_L63 := rfA_L61_ok
noncomputable def rfA_S64 : Sums := rfA_S62
theorem rfA_S64_ok : SumOK Try.prog rfA_S64 := rfA_S62_ok
noncomputable def rfA_S65 : Sums := rfA_S64
theorem rfA_S65_ok : SumOK Try.prog rfA_S65 := rfA_S64_ok
noncomputable def rno_St (u : fi_U) (v : ctb1_V) : Stt := ⟨[.one (.d false false (.prod (.int .i64) (.int .i64)) u), .one .junk, .one (.v false (Value.slice none (0 : Nat) (0 : Nat))), .one (.v false (.int .i64 v.1)), .one (.v false (.int .i64 v.2)), .one .junk, .one .junk, .one .junk, .one .junk, .one .junk, .one .junk, .one .junk, .one .junk, .one .junk, .one .junk, .one .junk, .one .junk, .one .junk, .one .junk, .one .junk, .one .junk, .one .junk, .one .junk, .one .junk, .one .junk, .one .junk, .one .junk, .one .junk, .one .junk, .one .junk, .one .junk, .one .junk, .one .junk, .one .junk, .one .junk, .one .junk, .one .junk, .one .junk, .one .junk, .one .junk, .one .junk, .one .junk], [], 1003⟩
noncomputable def rno_step (u : fi_U) (v : ctb1_V) : Tr (ctb1_V ⊕ (Nat × ctb1_V)) :=
  match u, v with
  | q0, (q1, q2) => .br (decide (q2 < (↑(List.length q0) : Int))) (.br (decide ((0 : Int) ≤ q2) && decide (q2 < (↑(List.length q0) : Int))) (.br (decide ((0 : Int) ≤ q2) && decide (q2 < (↑(List.length q0) : Int))) (.br ((bif decide (Prod.fst (el_ii q0 q2) < Prod.snd (el_ii q0 q2)) then ((decide ((0 : Int) ≤ q2) && decide (q2 < (↑(List.length q0) : Int))) && (bif !bif decide (Prod.fst (el_ii q0 q2) ≥ (-1048576 : Int)) then decide (Prod.fst (el_ii q0 q2) ≤ (1048576 : Int)) else false then true else (decide ((0 : Int) ≤ q2) && decide (q2 < (↑(List.length q0) : Int))))) else true)) (.br (bif decide (Prod.fst (el_ii q0 q2) < Prod.snd (el_ii q0 q2)) then bif !bif decide (Prod.fst (el_ii q0 q2) ≥ (-1048576 : Int)) then decide (Prod.fst (el_ii q0 q2) ≤ (1048576 : Int)) else false then true else !bif decide (Prod.snd (el_ii q0 q2) ≥ (-1048576 : Int)) then decide (Prod.snd (el_ii q0 q2) ≤ (1048576 : Int)) else false else false) (.ret (.inr (0, (8, q2)))) (.ret (.inl (q1, IntKind.wrap .i64 (q2 + (1 : Int)))))) (.bad 117)) (.bad 29)) (.bad 29)) (.ret (.inr (1, (q1, q2))))
set_option maxRecDepth 100000 in
set_option maxHeartbeats 4000000 in
theorem rno_step_eq : ∀ (u : fi_U) (v : ctb1_V), (evalC Try.prog (evalB Try.prog rfA_S65 (opens []) rfA_L63 7).1 (evalB Try.prog rfA_S65 (opens []) rfA_L63 7).2 (opens []) (rfA_L63 51) 100000 (0 :: [0, 1, 0, 1]) (loopOf (bodyOf Try.prog 51) [1, 0, 1, 0]) (rno_St u v) []).bind (finF [1, 5, 6, 7, 8, 9, 10, 11, 12, 13, 14, 15, 16, 17, 18, 19, 20, 21, 22, 23, 24, 25, 26, 27, 28, 29, 30, 31, 32, 33, 34, 35, 36, 37, 38, 39, 40, 41] [] [] [] 1003) = (rno_step u v).bind (outA (rno_St u) [.ret, .exit 0]) := by
  rintro q0 ⟨q1, q2⟩
  kernel_rfl
noncomputable def rno_rd (b : Bool) (o0 : Option AV) (o2 : Option AV) (o3 : Option AV) (o4 : Option AV) (own : Own) : Option (fi_U × ctb1_V) := zrT b <| zrO o0 fun za1 => zrA1 za1 fun zc2 => zrD (.prod (.int .i64) (.int .i64)) zc2 fun q0 => zrO o2 fun za3 => zrA1 za3 fun zc4 => zrNil zc4 <| zrO o3 fun za5 => zrA1 za5 fun zc6 => zrI .i64 zc6 fun q1 => zrO o4 fun za7 => zrA1 za7 fun zc8 => zrI .i64 zc8 fun q2 => zrN own <| some (q0, (q1, q2))
noncomputable def rno_can (st : Stt) : Stt := canA [1, 5, 6, 7, 8, 9, 10, 11, 12, 13, 14, 15, 16, 17, 18, 19, 20, 21, 22, 23, 24, 25, 26, 27, 28, 29, 30, 31, 32, 33, 34, 35, 36, 37, 38, 39, 40, 41] [] [] [] 1003 st
noncomputable def rno_cok (st : Stt) : Bool := canAok [1, 5, 6, 7, 8, 9, 10, 11, 12, 13, 14, 15, 16, 17, 18, 19, 20, 21, 22, 23, 24, 25, 26, 27, 28, 29, 30, 31, 32, 33, 34, 35, 36, 37, 38, 39, 40, 41] [] [] [] 1003 st
noncomputable def rno_read (st : Stt) : Option (fi_U × ctb1_V) := rno_rd (rno_cok st && (staysA [] [] st.own && juAll [1, 5, 6, 7, 8, 9, 10, 11, 12, 13, 14, 15, 16, 17, 18, 19, 20, 21, 22, 23, 24, 25, 26, 27, 28, 29, 30, 31, 32, 33, 34, 35, 36, 37, 38, 39, 40, 41] (rno_can st).tm 42)) (rno_can st).tm[0]? (rno_can st).tm[2]? (rno_can st).tm[3]? (rno_can st).tm[4]? (rno_can st).own
set_option maxRecDepth 100000 in
set_option maxHeartbeats 4000000 in
theorem rno_rd_ok {b : Bool} {tm : List AV} {own : Own} {u : fi_U} {v : ctb1_V} (hj : b = true → juAll [1, 5, 6, 7, 8, 9, 10, 11, 12, 13, 14, 15, 16, 17, 18, 19, 20, 21, 22, 23, 24, 25, 26, 27, 28, 29, 30, 31, 32, 33, 34, 35, 36, 37, 38, 39, 40, 41] tm 42 = true) (h : rno_rd b tm[0]? tm[2]? tm[3]? tm[4]? own = some (u, v)) : b = true ∧ tm = (rno_St u v).tm ∧ own = (rno_St u v).own := by
  unfold rno_rd at h
  obtain ⟨rfl, h0⟩ := zrT_some h
  obtain ⟨za1, e0, h1⟩ := zrO_some h0
  obtain ⟨zc2, rfl, h2⟩ := zrA1_some h1
  obtain ⟨q0, rfl, h3⟩ := zrD_some h2
  obtain ⟨za3, e2, h4⟩ := zrO_some h3
  obtain ⟨zc4, rfl, h5⟩ := zrA1_some h4
  obtain ⟨rfl, h6⟩ := zrNil_some h5
  obtain ⟨za5, e3, h7⟩ := zrO_some h6
  obtain ⟨zc6, rfl, h8⟩ := zrA1_some h7
  obtain ⟨q1, rfl, h9⟩ := zrI_some h8
  obtain ⟨za7, e4, h10⟩ := zrO_some h9
  obtain ⟨zc8, rfl, h11⟩ := zrA1_some h10
  obtain ⟨q2, rfl, h12⟩ := zrI_some h11
  obtain ⟨rfl, h13⟩ := zrN_some h12
  have h := Option.some.inj h13
  have hu := congrArg Prod.fst h
  have hv := congrArg Prod.snd h
  dsimp only at hu hv
  subst hu
  subst hv
  exact ⟨rfl, (tm_fill (hj rfl) (Lv := [(0, .one (.d false false (.prod (.int .i64) (.int .i64)) q0)), (2, .one (.v false (Value.slice none (0 : Nat) (0 : Nat)))), (3, .one (.v false (.int .i64 q1))), (4, .one (.v false (.int .i64 q2)))]) (by kernel_rfl) ⟨e0, e2, e3, e4, trivial⟩).trans (by kernel_rfl), rfl⟩
theorem rno_read_ok (st : Stt) (u : fi_U) (v : ctb1_V) (h : rno_read st = some (u, v)) : rno_cok st = true ∧ staysA [] [] st.own = true ∧ rno_can st = rno_St u v := by
  obtain ⟨h1, h2, h3⟩ := rno_rd_ok (fun hb => by rw [Bool.and_eq_true, Bool.and_eq_true] at hb; exact hb.2.2) h
  rw [Bool.and_eq_true, Bool.and_eq_true] at h1
  refine ⟨h1.1, h1.2.1, ?_⟩
  have e : rno_can st = ⟨(rno_can st).tm, (rno_can st).own, 1003⟩ := by kernel_rfl
  rw [e, h2, h3]
  rfl
noncomputable def rno_cond (u : fi_U) (v : ctb1_V) : Bool := runC (rno_step u) v
noncomputable def rno_g (u : fi_U) (v : ctb1_V) : Nat × ctb1_V := runG (rno_step u) v
theorem rno_hg : ∀ (u : fi_U) (v : ctb1_V), rno_cond u v = true → loopN (rno_step u) ((fun u v => runF (rno_step u) v) u v) v = some (rno_g u v) := by
  exact fun u v h => run_hg h
noncomputable def rno_m (st : Stt) : Option (Tr (Ex × Stt)) := sumM rno_read rno_cond rno_St rno_g [(0, .ret), (1, .exit 0)] st
noncomputable def rfA_L66 : FuncId → Loops := addL 51 [0, 1, 0, 1] rno_m rfA_L63
set_option maxRecDepth 100000 in
set_option maxHeartbeats 4000000 in
theorem rfA_L66_ok : LoopsOK Try.prog rfA_L66 :=
  loop_sumF (body := (bodyOf Try.prog 51)) (c := (loopOf (bodyOf Try.prog 51) [1, 0, 1, 0])) (kinds := [.ret, .exit 0]) (allow := [(0, .ret), (1, .exit 0)]) (St := rno_St) (step := rno_step) (W := [1, 5, 6, 7, 8, 9, 10, 11, 12, 13, 14, 15, 16, 17, 18, 19, 20, 21, 22, 23, 24, 25, 26, 27, 28, 29, 30, 31, 32, 33, 34, 35, 36, 37, 38, 39, 40, 41]) (As := []) (ks := []) (dd := []) (nx := 1003) (n := 100000) (g := rno_g) (cond := rno_cond) (fuel := (fun u v => runF (rno_step u) v)) (read := rno_read) (by kernel_rfl) (rfA_S65_ok) (rfA_L63_ok) 7 ⟨Try.f51, by kernel_rfl, by kernel_rfl⟩ (by kernel_rfl) (by kernel_rfl) (by kernel_rfl) rno_step_eq rno_hg rno_read_ok
def okR (L : Rl) : Bool := L.all fun r => bif decide (r.1 < r.2) then (decide (-1048576 ≤ r.1) && decide (r.2 ≤ 1048576)) else true
noncomputable def nmL (L : Rl) : Rl := bif okR L then nfR (memR L) else []
def nmE (L : Rl) : Int := bif okR L then 0 else 8
theorem rno_run {L : Rl} (hn : L.length ≤ 10000) : rno_cond L (0, 0) = true ∧ ((okR L = true ∧ rno_g L (0, 0) = (1, (0, (L.length : Int)))) ∨ (okR L = false ∧ ∃ j : Nat, rno_g L (0, 0) = (0, (8, (j : Int))))) := by
  obtain ⟨h1, h2⟩ := run_all (step := rno_step L) (St := fun i => (0, (i : Int))) (Lv := fun i => (0, (8, (i : Int)))) (t := (1, (0, (L.length : Int)))) (l := L) (p := fun r => bif decide (r.1 < r.2) then (decide (-1048576 ≤ r.1) && decide (r.2 ≤ 1048576)) else true) (fun i hi => by
    simp only [rno_step, Tr.val, lt_t hi, nn_t, el_r hi, wi1 hi (show (L.length : Int) ≤ 9223372036854775806 by omega), Bool.and_self, Bool.cond_self, cond_true]
    have e : (bif decide (L[i].1 < L[i].2) then bif !bif decide (L[i].1 ≥ (-1048576 : Int)) then decide (L[i].1 ≤ (1048576 : Int)) else false then true else !bif decide (L[i].2 ≥ (-1048576 : Int)) then decide (L[i].2 ≤ (1048576 : Int)) else false else false) = !(bif decide (L[i].1 < L[i].2) then (decide (-1048576 ≤ L[i].1) && decide (L[i].2 ≤ 1048576)) else true) := by
      by_cases h : L[i].1 < L[i].2
      · rw [decide_eq_true h, Bool.eq_iff_iff]
        simp [Bool.cond_eq_ite]
        omega
      · rw [decide_eq_false h]; rfl
    rw [e]
    cases (bif decide (L[i].1 < L[i].2) then (decide (-1048576 ≤ L[i].1) && decide (L[i].2 ≤ 1048576)) else true) <;> rfl) (by simp only [rno_step, Tr.val, Int.lt_irrefl, decide_false, cond_false])
  refine ⟨h1, ?_⟩
  rcases h2 with ⟨h, h3⟩ | ⟨h, j, _, _, _, h4⟩
  · exact .inl ⟨h, h3⟩
  · exact .inr ⟨h, j, h4⟩
set_option maxRecDepth 100000 in
theorem rnoc_tree (L : (Ty.list (.prod (.int .i64) (.int .i64))).den) : evalF Try.prog rfA_S65 (opens []) rfA_L66 9 51 [.one (.d false false (.prod (.int .i64) (.int .i64)) L)] = .br (((rno_cond L ((0 : Int), (0 : Int))) && (bif Nat.beq (Prod.fst (rno_g L ((0 : Int), (0 : Int)))) (0 : Nat) then true else ((Nat.beq (Prod.fst (rno_g L ((0 : Int), (0 : Int)))) (1 : Nat)) && (decide (List.length L ≤ (10000 : Nat))))))) (.ret (.tup [(false, [.d false false (.prod (.int .i64) (.int .i64)) (bif Nat.beq (Prod.fst (rno_g L ((0 : Int), (0 : Int)))) (0 : Nat) then [] else nfR (memR L))]), (false, [.v false (.int .i64 (bif Nat.beq (Prod.fst (rno_g L ((0 : Int), (0 : Int)))) (0 : Nat) then Prod.fst (Prod.snd (rno_g L ((0 : Int), (0 : Int)))) else (0 : Int)))])])) (.bad 116) := by kernel_rfl
theorem rnoc_val (L : (Ty.list (.prod (.int .i64) (.int .i64))).den) (hc : (decide (L.length ≤ 10000)) = true) : (.br (((rno_cond L ((0 : Int), (0 : Int))) && (bif Nat.beq (Prod.fst (rno_g L ((0 : Int), (0 : Int)))) (0 : Nat) then true else ((Nat.beq (Prod.fst (rno_g L ((0 : Int), (0 : Int)))) (1 : Nat)) && (decide (List.length L ≤ (10000 : Nat))))))) (.ret (.tup [(false, [.d false false (.prod (.int .i64) (.int .i64)) (bif Nat.beq (Prod.fst (rno_g L ((0 : Int), (0 : Int)))) (0 : Nat) then [] else nfR (memR L))]), (false, [.v false (.int .i64 (bif Nat.beq (Prod.fst (rno_g L ((0 : Int), (0 : Int)))) (0 : Nat) then Prod.fst (Prod.snd (rno_g L ((0 : Int), (0 : Int)))) else (0 : Int)))])])) (.bad 116) : Tr AV).val = some (.tup [(false, [.d false false (.prod (.int .i64) (.int .i64)) (nmL L)]), (false, [.v false (.int .i64 (nmE L))])]) := by
  obtain ⟨K, rfl⟩ : ∃ K : Rl, K = L := ⟨L, rfl⟩
  have hn : K.length ≤ 10000 := of_decide_eq_true hc
  obtain ⟨v1, v2⟩ := rno_run hn
  unfold nmL nmE
  show cond _ _ _ = _
  rcases v2 with ⟨h, g⟩ | ⟨h, j, g⟩
  · simp only [hc, v1, g, h, Nat.beq, Bool.and_self, cond_true, cond_false, Tr.val]
  · simp only [hc, v1, g, h, Nat.beq, Bool.and_self, cond_true, cond_false, Tr.val]
noncomputable def rnoc_g : List AV → Option (Tr AV)
  | [.one (.d _ _ (.prod (.int .i64) (.int .i64)) L)] => some (.br (decide (L.length ≤ 10000)) (.ret (.tup [(false, [.d false false (.prod (.int .i64) (.int .i64)) (nmL L)]), (false, [.v false (.int .i64 (nmE L))])])) (.bad 900))
  | _ => none
set_option maxHeartbeats 4000000 in
theorem rnoc_ok : FunOK Try.prog 51 rnoc_g := by
  refine fun_ok (by kernel_rfl) (rfA_S65_ok) (rfA_L66_ok) 9 (On := (opens [])) (fun args t h => ?_)
  unfold rnoc_g at h
  split at h
  · rename_i _ _ L
    simp only [Option.some.injEq] at h
    subst h
    refine ⟨[.one (.d false false (.prod (.int .i64) (.int .i64)) L)], rfl, fun fr w us h => h, fun r hr => ?_⟩
    obtain ⟨hc, hr⟩ := br_bad hr
    simp only [Tr.val, Option.some.injEq] at hr
    subst hr
    rw [rnoc_tree]
    exact rnoc_val L hc
  · cases h
noncomputable def rfA_S67 : Sums := addS 51 rnoc_g rfA_S65
theorem rfA_S67_ok : SumOK Try.prog rfA_S67 := addS_ok (rnoc_ok) (rfA_S65_ok)
abbrev rbx_U : Type := Bool × Int × Int × Int × Int × Int × Int × (Ty.list (.prod (.int .i64) (.list (.prod (.int .i64) (.int .i64))))).den
noncomputable def rbx_St (u : rbx_U) (v : box_V) : Stt := ⟨[.one .junk, .one (.p 0 0), .one (.p 1 0), .one (.p 2 0), .one (.v false (.bool u.1)), .one (.p 19 0), .one (.p 31 0), .one (.v false (.int .i64 v.1)), .one .junk, .one .junk, .one .junk, .one .junk, .one .junk, .one .junk, .one .junk, .one .junk, .one .junk, .one .junk, .one .junk, .one .junk, .one .junk, .one .junk, .one .junk, .one .junk, .one .junk, .one .junk, .one .junk, .one .junk, .one .junk, .one .junk, .one .junk, .one .junk, .one .junk, .one .junk, .one .junk, .one .junk, .one .junk, .one .junk, .one .junk, .one .junk, .one .junk, .one .junk, .one .junk, .one .junk, .one .junk, .one .junk, .one .junk, .one .junk, .one .junk, .one .junk, .one .junk, .one .junk, .one .junk, .one .junk, .one .junk, .one .junk, .one .junk, .one .junk, .one .junk, .one .junk, .one .junk, .one .junk, .one .junk, .one .junk, .one .junk, .one .junk, .one .junk, .one .junk, .one .junk, .one .junk, .one .junk], [(31, .cells [.v false (.int .i64 v.2.1), .v false (.int .i64 u.2.1)]), (19, .cells [.v false (.int .i64 v.2.2), .v false (.int .i64 u.2.2.1)]), (2, .cells [.v false (.int .i64 u.2.2.2.1), .v false (.int .i64 u.2.2.2.2.1)]), (1, .cells [.v false (.int .i64 u.2.2.2.2.2.1), .v false (.int .i64 u.2.2.2.2.2.2.1)]), (0, .cells [.d false false (.prod (.int .i64) (.list (.prod (.int .i64) (.int .i64)))) u.2.2.2.2.2.2.2])], 1034⟩
noncomputable def rbx_step (u : rbx_U) (v : box_V) : Tr (box_V ⊕ (Nat × box_V)) :=
  match u, v with
  | (_, _, _, _, _, _, _, q10), (q1, q2, q4) => .br (decide (q1 < (↑(List.length q10) : Int))) (.br (decide ((0 : Int) ≤ q1) && decide (q1 < (↑(List.length q10) : Int))) (.br (decide ((0 : Int) ≤ (0 : Int)) && decide ((0 : Int) < (↑(List.length (Prod.snd (el_ilii q10 q1))) : Int))) (.br (decide ((0 : Int) ≤ IntKind.wrap .i64 ((↑(List.length (Prod.snd (el_ilii q10 q1))) : Int) - (1 : Int))) && decide (IntKind.wrap .i64 ((↑(List.length (Prod.snd (el_ilii q10 q1))) : Int) - (1 : Int)) < (↑(List.length (Prod.snd (el_ilii q10 q1))) : Int))) (.ret (.inl (IntKind.wrap .i64 (q1 + (1 : Int)), if IntKind.wrap .i64 (Prod.snd (el_ii (Prod.snd (el_ilii q10 q1)) (IntKind.wrap .i64 ((↑(List.length (Prod.snd (el_ilii q10 q1))) : Int) - (1 : Int)))) - (1 : Int)) > q2 then IntKind.wrap .i64 (Prod.snd (el_ii (Prod.snd (el_ilii q10 q1)) (IntKind.wrap .i64 ((↑(List.length (Prod.snd (el_ilii q10 q1))) : Int) - (1 : Int)))) - (1 : Int)) else q2, if Prod.fst (el_ii (Prod.snd (el_ilii q10 q1)) (0 : Int)) < q4 then Prod.fst (el_ii (Prod.snd (el_ilii q10 q1)) (0 : Int)) else q4))) (.bad 29)) (.bad 29)) (.bad 29)) (.ret (.inr (0, (q1, q2, q4))))
set_option maxRecDepth 100000 in
set_option maxHeartbeats 4000000 in
theorem rbx_step_eq : ∀ (u : rbx_U) (v : box_V), (evalC Try.prog (evalB Try.prog rfA_S67 (opens []) rfA_L66 7).1 (evalB Try.prog rfA_S67 (opens []) rfA_L66 7).2 (opens []) (rfA_L66 50) 100000 (0 :: [0, 1, 0, 1, 1, 1, 1]) (loopOf (bodyOf Try.prog 50) [1, 1, 1, 1, 0, 1, 0]) (rbx_St u v) []).bind (finF [0, 8, 9, 10, 11, 12, 13, 14, 15, 16, 17, 18, 19, 20, 21, 22, 23, 24, 25, 26, 27, 28, 29, 30, 31, 32, 33, 34, 35, 36, 37, 38, 39, 40, 41, 42, 43, 44, 45, 46, 47, 48, 49, 50, 51, 52, 53, 54, 55, 56, 57, 58, 59, 60, 61, 62, 63, 64, 65, 66, 67, 68, 69, 70] [] [31, 19, 2, 1, 0] [] 1034) = (rbx_step u v).bind (outA (rbx_St u) [.exit 0]) := by
  rintro ⟨q0, q3, q5, q6, q7, q8, q9, q10⟩ ⟨q1, q2, q4⟩
  kernel_rfl
noncomputable def rbx_rd (b : Bool) (o1 : Option AV) (o2 : Option AV) (o3 : Option AV) (o4 : Option AV) (o5 : Option AV) (o6 : Option AV) (o7 : Option AV) (own : Own) : Option (rbx_U × box_V) := zrT b <| zrO o1 fun za1 => zrA1 za1 fun zc2 => zrP 0 0 zc2 <| zrO o2 fun za3 => zrA1 za3 fun zc4 => zrP 1 0 zc4 <| zrO o3 fun za5 => zrA1 za5 fun zc6 => zrP 2 0 zc6 <| zrO o4 fun za7 => zrA1 za7 fun zc8 => zrB zc8 fun q0 => zrO o5 fun za9 => zrA1 za9 fun zc10 => zrP 19 0 zc10 <| zrO o6 fun za11 => zrA1 za11 fun zc12 => zrP 31 0 zc12 <| zrO o7 fun za13 => zrA1 za13 fun zc14 => zrI .i64 zc14 fun q1 => zrL own fun zq15 zw16 => zrKey 31 zq15 fun zk17 => zrC zk17 fun zl18 => zrL zl18 fun zc19 zr20 => zrI .i64 zc19 fun q2 => zrL zr20 fun zc21 zr22 => zrI .i64 zc21 fun q3 => zrN zr22 <| zrL zw16 fun zq23 zw24 => zrKey 19 zq23 fun zk25 => zrC zk25 fun zl26 => zrL zl26 fun zc27 zr28 => zrI .i64 zc27 fun q4 => zrL zr28 fun zc29 zr30 => zrI .i64 zc29 fun q5 => zrN zr30 <| zrL zw24 fun zq31 zw32 => zrKey 2 zq31 fun zk33 => zrC zk33 fun zl34 => zrL zl34 fun zc35 zr36 => zrI .i64 zc35 fun q6 => zrL zr36 fun zc37 zr38 => zrI .i64 zc37 fun q7 => zrN zr38 <| zrL zw32 fun zq39 zw40 => zrKey 1 zq39 fun zk41 => zrC zk41 fun zl42 => zrL zl42 fun zc43 zr44 => zrI .i64 zc43 fun q8 => zrL zr44 fun zc45 zr46 => zrI .i64 zc45 fun q9 => zrN zr46 <| zrL zw40 fun zq47 zw48 => zrKey 0 zq47 fun zk49 => zrC zk49 fun zl50 => zrL zl50 fun zc51 zr52 => zrD (.prod (.int .i64) (.list (.prod (.int .i64) (.int .i64)))) zc51 fun q10 => zrN zr52 <| zrN zw48 <| some ((q0, q3, q5, q6, q7, q8, q9, q10), (q1, q2, q4))
noncomputable def rbx_can (st : Stt) : Stt := canA [0, 8, 9, 10, 11, 12, 13, 14, 15, 16, 17, 18, 19, 20, 21, 22, 23, 24, 25, 26, 27, 28, 29, 30, 31, 32, 33, 34, 35, 36, 37, 38, 39, 40, 41, 42, 43, 44, 45, 46, 47, 48, 49, 50, 51, 52, 53, 54, 55, 56, 57, 58, 59, 60, 61, 62, 63, 64, 65, 66, 67, 68, 69, 70] [] [31, 19, 2, 1, 0] [] 1034 st
noncomputable def rbx_cok (st : Stt) : Bool := canAok [0, 8, 9, 10, 11, 12, 13, 14, 15, 16, 17, 18, 19, 20, 21, 22, 23, 24, 25, 26, 27, 28, 29, 30, 31, 32, 33, 34, 35, 36, 37, 38, 39, 40, 41, 42, 43, 44, 45, 46, 47, 48, 49, 50, 51, 52, 53, 54, 55, 56, 57, 58, 59, 60, 61, 62, 63, 64, 65, 66, 67, 68, 69, 70] [] [31, 19, 2, 1, 0] [] 1034 st
noncomputable def rbx_read (st : Stt) : Option (rbx_U × box_V) := rbx_rd (rbx_cok st && (staysA [] [31, 19, 2, 1, 0] st.own && juAll [0, 8, 9, 10, 11, 12, 13, 14, 15, 16, 17, 18, 19, 20, 21, 22, 23, 24, 25, 26, 27, 28, 29, 30, 31, 32, 33, 34, 35, 36, 37, 38, 39, 40, 41, 42, 43, 44, 45, 46, 47, 48, 49, 50, 51, 52, 53, 54, 55, 56, 57, 58, 59, 60, 61, 62, 63, 64, 65, 66, 67, 68, 69, 70] (rbx_can st).tm 71)) (rbx_can st).tm[1]? (rbx_can st).tm[2]? (rbx_can st).tm[3]? (rbx_can st).tm[4]? (rbx_can st).tm[5]? (rbx_can st).tm[6]? (rbx_can st).tm[7]? (rbx_can st).own
set_option maxRecDepth 100000 in
set_option maxHeartbeats 4000000 in
theorem rbx_rd_ok {b : Bool} {tm : List AV} {own : Own} {u : rbx_U} {v : box_V} (hj : b = true → juAll [0, 8, 9, 10, 11, 12, 13, 14, 15, 16, 17, 18, 19, 20, 21, 22, 23, 24, 25, 26, 27, 28, 29, 30, 31, 32, 33, 34, 35, 36, 37, 38, 39, 40, 41, 42, 43, 44, 45, 46, 47, 48, 49, 50, 51, 52, 53, 54, 55, 56, 57, 58, 59, 60, 61, 62, 63, 64, 65, 66, 67, 68, 69, 70] tm 71 = true) (h : rbx_rd b tm[1]? tm[2]? tm[3]? tm[4]? tm[5]? tm[6]? tm[7]? own = some (u, v)) : b = true ∧ tm = (rbx_St u v).tm ∧ own = (rbx_St u v).own := by
  unfold rbx_rd at h
  obtain ⟨rfl, h0⟩ := zrT_some h
  obtain ⟨za1, e1, h1⟩ := zrO_some h0
  obtain ⟨zc2, rfl, h2⟩ := zrA1_some h1
  obtain ⟨rfl, h3⟩ := zrP_some h2
  obtain ⟨za3, e2, h4⟩ := zrO_some h3
  obtain ⟨zc4, rfl, h5⟩ := zrA1_some h4
  obtain ⟨rfl, h6⟩ := zrP_some h5
  obtain ⟨za5, e3, h7⟩ := zrO_some h6
  obtain ⟨zc6, rfl, h8⟩ := zrA1_some h7
  obtain ⟨rfl, h9⟩ := zrP_some h8
  obtain ⟨za7, e4, h10⟩ := zrO_some h9
  obtain ⟨zc8, rfl, h11⟩ := zrA1_some h10
  obtain ⟨q0, rfl, h12⟩ := zrB_some h11
  obtain ⟨za9, e5, h13⟩ := zrO_some h12
  obtain ⟨zc10, rfl, h14⟩ := zrA1_some h13
  obtain ⟨rfl, h15⟩ := zrP_some h14
  obtain ⟨za11, e6, h16⟩ := zrO_some h15
  obtain ⟨zc12, rfl, h17⟩ := zrA1_some h16
  obtain ⟨rfl, h18⟩ := zrP_some h17
  obtain ⟨za13, e7, h19⟩ := zrO_some h18
  obtain ⟨zc14, rfl, h20⟩ := zrA1_some h19
  obtain ⟨q1, rfl, h21⟩ := zrI_some h20
  obtain ⟨zq15, zw16, rfl, h22⟩ := zrL_some h21
  obtain ⟨zk17, rfl, h23⟩ := zrKey_some h22
  obtain ⟨zl18, rfl, h24⟩ := zrC_some h23
  obtain ⟨zc19, zr20, rfl, h25⟩ := zrL_some h24
  obtain ⟨q2, rfl, h26⟩ := zrI_some h25
  obtain ⟨zc21, zr22, rfl, h27⟩ := zrL_some h26
  obtain ⟨q3, rfl, h28⟩ := zrI_some h27
  obtain ⟨rfl, h29⟩ := zrN_some h28
  obtain ⟨zq23, zw24, rfl, h30⟩ := zrL_some h29
  obtain ⟨zk25, rfl, h31⟩ := zrKey_some h30
  obtain ⟨zl26, rfl, h32⟩ := zrC_some h31
  obtain ⟨zc27, zr28, rfl, h33⟩ := zrL_some h32
  obtain ⟨q4, rfl, h34⟩ := zrI_some h33
  obtain ⟨zc29, zr30, rfl, h35⟩ := zrL_some h34
  obtain ⟨q5, rfl, h36⟩ := zrI_some h35
  obtain ⟨rfl, h37⟩ := zrN_some h36
  obtain ⟨zq31, zw32, rfl, h38⟩ := zrL_some h37
  obtain ⟨zk33, rfl, h39⟩ := zrKey_some h38
  obtain ⟨zl34, rfl, h40⟩ := zrC_some h39
  obtain ⟨zc35, zr36, rfl, h41⟩ := zrL_some h40
  obtain ⟨q6, rfl, h42⟩ := zrI_some h41
  obtain ⟨zc37, zr38, rfl, h43⟩ := zrL_some h42
  obtain ⟨q7, rfl, h44⟩ := zrI_some h43
  obtain ⟨rfl, h45⟩ := zrN_some h44
  obtain ⟨zq39, zw40, rfl, h46⟩ := zrL_some h45
  obtain ⟨zk41, rfl, h47⟩ := zrKey_some h46
  obtain ⟨zl42, rfl, h48⟩ := zrC_some h47
  obtain ⟨zc43, zr44, rfl, h49⟩ := zrL_some h48
  obtain ⟨q8, rfl, h50⟩ := zrI_some h49
  obtain ⟨zc45, zr46, rfl, h51⟩ := zrL_some h50
  obtain ⟨q9, rfl, h52⟩ := zrI_some h51
  obtain ⟨rfl, h53⟩ := zrN_some h52
  obtain ⟨zq47, zw48, rfl, h54⟩ := zrL_some h53
  obtain ⟨zk49, rfl, h55⟩ := zrKey_some h54
  obtain ⟨zl50, rfl, h56⟩ := zrC_some h55
  obtain ⟨zc51, zr52, rfl, h57⟩ := zrL_some h56
  obtain ⟨q10, rfl, h58⟩ := zrD_some h57
  obtain ⟨rfl, h59⟩ := zrN_some h58
  obtain ⟨rfl, h60⟩ := zrN_some h59
  have h := Option.some.inj h60
  have hu := congrArg Prod.fst h
  have hv := congrArg Prod.snd h
  dsimp only at hu hv
  subst hu
  subst hv
  exact ⟨rfl, (tm_fill (hj rfl) (Lv := [(1, .one (.p 0 0)), (2, .one (.p 1 0)), (3, .one (.p 2 0)), (4, .one (.v false (.bool q0))), (5, .one (.p 19 0)), (6, .one (.p 31 0)), (7, .one (.v false (.int .i64 q1)))]) (by kernel_rfl) ⟨e1, e2, e3, e4, e5, e6, e7, trivial⟩).trans (by kernel_rfl), rfl⟩
theorem rbx_read_ok (st : Stt) (u : rbx_U) (v : box_V) (h : rbx_read st = some (u, v)) : rbx_cok st = true ∧ staysA [] [31, 19, 2, 1, 0] st.own = true ∧ rbx_can st = rbx_St u v := by
  obtain ⟨h1, h2, h3⟩ := rbx_rd_ok (fun hb => by rw [Bool.and_eq_true, Bool.and_eq_true] at hb; exact hb.2.2) h
  rw [Bool.and_eq_true, Bool.and_eq_true] at h1
  refine ⟨h1.1, h1.2.1, ?_⟩
  have e : rbx_can st = ⟨(rbx_can st).tm, (rbx_can st).own, 1034⟩ := by kernel_rfl
  rw [e, h2, h3]
  rfl
noncomputable def rbx_cond (u : rbx_U) (v : box_V) : Bool := runC (rbx_step u) v
noncomputable def rbx_g (u : rbx_U) (v : box_V) : Nat × box_V := runG (rbx_step u) v
theorem rbx_hg : ∀ (u : rbx_U) (v : box_V), rbx_cond u v = true → loopN (rbx_step u) ((fun u v => runF (rbx_step u) v) u v) v = some (rbx_g u v) := by
  exact fun u v h => run_hg h
noncomputable def rbx_m (st : Stt) : Option (Tr (Ex × Stt)) := sumM rbx_read rbx_cond rbx_St rbx_g [(0, .exit 0)] st
noncomputable def rfA_L68 : FuncId → Loops := addL 50 [0, 1, 0, 1, 1, 1, 1] rbx_m rfA_L66
set_option maxRecDepth 100000 in
set_option maxHeartbeats 4000000 in
theorem rfA_L68_ok : LoopsOK Try.prog rfA_L68 :=
  loop_sumF (body := (bodyOf Try.prog 50)) (c := (loopOf (bodyOf Try.prog 50) [1, 1, 1, 1, 0, 1, 0])) (kinds := [.exit 0]) (allow := [(0, .exit 0)]) (St := rbx_St) (step := rbx_step) (W := [0, 8, 9, 10, 11, 12, 13, 14, 15, 16, 17, 18, 19, 20, 21, 22, 23, 24, 25, 26, 27, 28, 29, 30, 31, 32, 33, 34, 35, 36, 37, 38, 39, 40, 41, 42, 43, 44, 45, 46, 47, 48, 49, 50, 51, 52, 53, 54, 55, 56, 57, 58, 59, 60, 61, 62, 63, 64, 65, 66, 67, 68, 69, 70]) (As := []) (ks := [31, 19, 2, 1, 0]) (dd := []) (nx := 1034) (n := 100000) (g := rbx_g) (cond := rbx_cond) (fuel := (fun u v => runF (rbx_step u) v)) (read := rbx_read) (by kernel_rfl) (rfA_S67_ok) (rfA_L66_ok) 7 ⟨Try.f50, by kernel_rfl, by kernel_rfl⟩ (by kernel_rfl) (by kernel_rfl) (by kernel_rfl) rbx_step_eq rbx_hg rbx_read_ok
theorem rbx_run {R : Rg} (h : valG R) (a b : Int) : rbx_cond (false, a, b, 0, 0, 0, 0, R) (0, -4096, 4096) = true ∧ rbx_g (false, a, b, 0, 0, 0, 0, R) (0, -4096, 4096) = (0, ((R.length : Int), hiX R, loX R)) := by
  have hn := ng_len h (by omega)
  have R1 := run_steps (step := rbx_step (false, a, b, 0, 0, 0, 0, R)) (St := fun j => ((j : Int), hiX (R.take j), loX (R.take j))) (n := R.length) (t := (0, ((R.length : Int), hiX R, loX R))) (by
    simp only [rbx_step, Tr.val, Int.lt_irrefl, decide_false, cond_false, List.take_length]) R.length 0 (Nat.zero_add _) (fun j _ hj => by
    have g := Ng.rows h _ (List.getElem_mem hj)
    obtain ⟨_, _, _, hp⟩ := row_ends g
    have hl := row_len g
    have hv := rowOk_val g
    have z := good_in hv (j := R[j].2.length - 1) (by omega)
    have e0 : el_ii R[j].2 (0 : Int) = R[j].2[0] := el_r (i := 0) hp
    have e1 : IntKind.wrap .i64 ((R[j].2.length : Int) - (1 : Int)) = ((R[j].2.length - 1 : Nat) : Int) := by rw [wid (by omega) (by omega)]; omega
    have e2 := el_r (L := R[j].2) (i := R[j].2.length - 1) (by omega)
    have w1 : IntKind.wrap .i64 ((R[j].2[R[j].2.length - 1]'(by omega)).2 - (1 : Int)) = (R[j].2[R[j].2.length - 1]'(by omega)).2 - 1 := wid (by omega) (by omega)
    have c0 : decide ((0 : Int) < (R[j].2.length : Int)) = true := decide_eq_true (by omega)
    have c1 : decide (((R[j].2.length - 1 : Nat) : Int) < (R[j].2.length : Int)) = true := decide_eq_true (by omega)
    have c3 : decide ((0 : Int) ≤ (0 : Int)) = true := rfl
    have h1 : hdX R[j] = R[j].2[0].1 := by unfold hdX; rw [List.getD, List.getElem?_eq_getElem hp]; rfl
    have h2 : tlX R[j] = (R[j].2[R[j].2.length - 1]'(by omega)).2 - 1 := by unfold tlX lastR; rw [List.getD, List.getElem?_eq_getElem (by omega)]; rfl
    rw [loX_take hj, hiX_take hj, h1, h2]
    simp only [rbx_step, Tr.val, lt_t hj, nn_t, el_g hj, e0, e1, e2, w1, c0, c1, c3, ite_min, ite_max, wi1 hj (show (R.length : Int) ≤ 9223372036854775806 by omega), Bool.and_self, cond_true])
  exact R1
set_option maxRecDepth 100000 in
theorem rbxc_tree (R : (Ty.list (.prod (.int .i64) (.list (.prod (.int .i64) (.int .i64))))).den) : evalF Try.prog rfA_S67 (opens []) rfA_L68 9 50 [.ag [.d false false (.prod (.int .i64) (.list (.prod (.int .i64) (.int .i64)))) R]] = .br (((szG R) && (bif bif !valGB R then true else (↑(List.length R) : Int) == (0 : Int) then true else ((decide ((0 : Int) ≤ (0 : Int)) && decide ((0 : Int) < (↑(List.length R) : Int))) && ((decide ((0 : Int) ≤ IntKind.wrap .i64 ((↑(List.length R) : Int) - (1 : Int))) && decide (IntKind.wrap .i64 ((↑(List.length R) : Int) - (1 : Int)) < (↑(List.length R) : Int))) && ((rbx_cond (false, Prod.fst (el_ilii R (IntKind.wrap .i64 ((↑(List.length R) : Int) - (1 : Int)))), Prod.fst (el_ilii R (0 : Int)), (0 : Int), (0 : Int), (0 : Int), (0 : Int), R) ((0 : Int), (-4096 : Int), (4096 : Int))) && (Nat.beq (Prod.fst (rbx_g (false, Prod.fst (el_ilii R (IntKind.wrap .i64 ((↑(List.length R) : Int) - (1 : Int)))), Prod.fst (el_ilii R (0 : Int)), (0 : Int), (0 : Int), (0 : Int), (0 : Int), R) ((0 : Int), (-4096 : Int), (4096 : Int)))) (0 : Nat)))))))) (.ret (.tup [(true, [.v false (.int .i64 (bif bif !valGB R then true else (↑(List.length R) : Int) == (0 : Int) then (0 : Int) else Prod.snd (Prod.snd (Prod.snd (rbx_g (false, Prod.fst (el_ilii R (IntKind.wrap .i64 ((↑(List.length R) : Int) - (1 : Int)))), Prod.fst (el_ilii R (0 : Int)), (0 : Int), (0 : Int), (0 : Int), (0 : Int), R) ((0 : Int), (-4096 : Int), (4096 : Int))))))), .v false (.int .i64 (bif bif !valGB R then true else (↑(List.length R) : Int) == (0 : Int) then (0 : Int) else Prod.fst (el_ilii R (0 : Int))))]), (true, [.v false (.int .i64 (bif bif !valGB R then true else (↑(List.length R) : Int) == (0 : Int) then (0 : Int) else Prod.fst (Prod.snd (Prod.snd (rbx_g (false, Prod.fst (el_ilii R (IntKind.wrap .i64 ((↑(List.length R) : Int) - (1 : Int)))), Prod.fst (el_ilii R (0 : Int)), (0 : Int), (0 : Int), (0 : Int), (0 : Int), R) ((0 : Int), (-4096 : Int), (4096 : Int))))))), .v false (.int .i64 (bif bif !valGB R then true else (↑(List.length R) : Int) == (0 : Int) then (0 : Int) else Prod.fst (el_ilii R (IntKind.wrap .i64 ((↑(List.length R) : Int) - (1 : Int))))))]), (false, [.v false (.bool (bif bif !valGB R then true else (↑(List.length R) : Int) == (0 : Int) then false else true))])])) (.bad 116) := by kernel_rfl
theorem rbxc_val (R : (Ty.list (.prod (.int .i64) (.list (.prod (.int .i64) (.int .i64))))).den) (hc : (szG R) = true) : (.br (((szG R) && (bif bif !valGB R then true else (↑(List.length R) : Int) == (0 : Int) then true else ((decide ((0 : Int) ≤ (0 : Int)) && decide ((0 : Int) < (↑(List.length R) : Int))) && ((decide ((0 : Int) ≤ IntKind.wrap .i64 ((↑(List.length R) : Int) - (1 : Int))) && decide (IntKind.wrap .i64 ((↑(List.length R) : Int) - (1 : Int)) < (↑(List.length R) : Int))) && ((rbx_cond (false, Prod.fst (el_ilii R (IntKind.wrap .i64 ((↑(List.length R) : Int) - (1 : Int)))), Prod.fst (el_ilii R (0 : Int)), (0 : Int), (0 : Int), (0 : Int), (0 : Int), R) ((0 : Int), (-4096 : Int), (4096 : Int))) && (Nat.beq (Prod.fst (rbx_g (false, Prod.fst (el_ilii R (IntKind.wrap .i64 ((↑(List.length R) : Int) - (1 : Int)))), Prod.fst (el_ilii R (0 : Int)), (0 : Int), (0 : Int), (0 : Int), (0 : Int), R) ((0 : Int), (-4096 : Int), (4096 : Int)))) (0 : Nat)))))))) (.ret (.tup [(true, [.v false (.int .i64 (bif bif !valGB R then true else (↑(List.length R) : Int) == (0 : Int) then (0 : Int) else Prod.snd (Prod.snd (Prod.snd (rbx_g (false, Prod.fst (el_ilii R (IntKind.wrap .i64 ((↑(List.length R) : Int) - (1 : Int)))), Prod.fst (el_ilii R (0 : Int)), (0 : Int), (0 : Int), (0 : Int), (0 : Int), R) ((0 : Int), (-4096 : Int), (4096 : Int))))))), .v false (.int .i64 (bif bif !valGB R then true else (↑(List.length R) : Int) == (0 : Int) then (0 : Int) else Prod.fst (el_ilii R (0 : Int))))]), (true, [.v false (.int .i64 (bif bif !valGB R then true else (↑(List.length R) : Int) == (0 : Int) then (0 : Int) else Prod.fst (Prod.snd (Prod.snd (rbx_g (false, Prod.fst (el_ilii R (IntKind.wrap .i64 ((↑(List.length R) : Int) - (1 : Int)))), Prod.fst (el_ilii R (0 : Int)), (0 : Int), (0 : Int), (0 : Int), (0 : Int), R) ((0 : Int), (-4096 : Int), (4096 : Int))))))), .v false (.int .i64 (bif bif !valGB R then true else (↑(List.length R) : Int) == (0 : Int) then (0 : Int) else Prod.fst (el_ilii R (IntKind.wrap .i64 ((↑(List.length R) : Int) - (1 : Int))))))]), (false, [.v false (.bool (bif bif !valGB R then true else (↑(List.length R) : Int) == (0 : Int) then false else true))])])) (.bad 116) : Tr AV).val = some (.tup [(true, [.v false (.int .i64 (bLX R)), .v false (.int .i64 (bLY R))]), (true, [.v false (.int .i64 (bHX R)), .v false (.int .i64 (bHY R))]), (false, [.v false (.bool (boxB R))])]) := by
  obtain ⟨K, rfl⟩ : ∃ K : Rg, K = R := ⟨R, rfl⟩
  have hs : szG K = true := hc
  unfold bLX bLY bHX bHY boxB
  show cond _ _ _ = _
  cases hv : valGB K
  · simp only [hs, Bool.not_false, Bool.and_self, Bool.false_and, cond_true, cond_false, Tr.val]
  · have h := valGB_iff.1 hv
    have hn := sz_len hs
    by_cases h0 : K.length = 0
    · have b0 : ((K.length : Int) == (0 : Int)) = true := by rw [h0]; rfl
      have d0 : decide (0 < K.length) = false := decide_eq_false (by omega)
      simp only [hs, b0, d0, Bool.not_true, Bool.and_self, Bool.and_false, cond_true, cond_false, Tr.val]
    · have hp : 0 < K.length := by omega
      have b0 : ((K.length : Int) == (0 : Int)) = false := by rw [beq_eq_false_iff_ne]; omega
      have d0 : decide (0 < K.length) = true := decide_eq_true hp
      have e0 : el_ilii K (0 : Int) = K[0] := el_g (i := 0) hp
      have e1 : IntKind.wrap .i64 ((K.length : Int) - (1 : Int)) = ((K.length - 1 : Nat) : Int) := by rw [wid (by omega) (by omega)]; omega
      have e2 := el_g (R := K) (i := K.length - 1) (by omega)
      have c0 : decide ((0 : Int) < (K.length : Int)) = true := decide_eq_true (by omega)
      have c1 : decide (((K.length - 1 : Nat) : Int) < (K.length : Int)) = true := decide_eq_true (by omega)
      have c2 : decide ((0 : Int) ≤ ((K.length - 1 : Nat) : Int)) = true := decide_eq_true (by omega)
      have c3 : decide ((0 : Int) ≤ (0 : Int)) = true := rfl
      have h1 : loY K = K[0].1 := by unfold loY; rw [List.getD, List.getElem?_eq_getElem hp]; rfl
      have h2 : hiY K = (K[K.length - 1]'(by omega)).1 := by unfold hiY; rw [List.getD, List.getElem?_eq_getElem (by omega)]; rfl
      obtain ⟨v1, v2⟩ := rbx_run h (K[K.length - 1]'(by omega)).1 K[0].1
      rw [h1, h2]
      simp only [hs, b0, d0, e0, e1, e2, c0, c1, c2, c3, v1, v2, Nat.beq, Bool.not_true, Bool.and_self, cond_true, cond_false, Tr.val]
set_option maxHeartbeats 4000000 in
theorem rbxc_ok : FunOK Try.prog 50 boxc_g := by
  refine fun_ok (by kernel_rfl) (rfA_S67_ok) (rfA_L68_ok) 9 (On := (opens [])) (fun args t h => ?_)
  unfold boxc_g at h
  split at h
  · rename_i _ _ R
    simp only [Option.some.injEq] at h
    subst h
    refine ⟨[.ag [.d false false (.prod (.int .i64) (.list (.prod (.int .i64) (.int .i64)))) R]], rfl, fun fr w us h => h, fun r hr => ?_⟩
    obtain ⟨hc, hr⟩ := br_bad hr
    simp only [Tr.val, Option.some.injEq] at hr
    subst hr
    rw [rbxc_tree]
    exact rbxc_val R hc
  · cases h
noncomputable def rfA_S69 : Sums := addS 50 boxc_g rfA_S67
theorem rfA_S69_ok : SumOK Try.prog rfA_S69 := addS_ok (rbxc_ok) (rfA_S67_ok)
end Go.Proofs.Ytacgchandefjgaa

namespace Go.Proofs.Ytacgchandefjgaa
open Go
abbrev xs2_U : Type := Int × Int × Int × (Ty.list (.prod (.int .i64) (.list (.prod (.int .i64) (.int .i64))))).den × Int × Int × (Ty.list (.prod (.int .i64) (.int .i64))).den × Int × Int × Int × (Ty.list (.prod (.int .i64) (.list (.prod (.int .i64) (.int .i64))))).den × (Ty.list (.prod (.int .i64) (.list (.prod (.int .i64) (.int .i64))))).den
noncomputable def xs2_St (u : xs2_U) (v : mov_V) : Stt := ⟨[.one .junk, .one (.v false (.int .i64 u.1)), .one (.p 0 0), .one .junk, .one (.p 1 0), .one (.v false (.int .i64 u.2.1)), .one .junk, .one (.p 18 0), .one .junk, .one (.p 50 0), .one (.v false (.int .i64 u.2.2.1)), .one (.s false 940 0 (none)), .one .junk, .one .junk, .one .junk, .one .junk, .one .junk, .one .junk, .one .junk, .one .junk, .one .junk, .one .junk, .one .junk, .one .junk, .one .junk, .one .junk, .one .junk, .one .junk, .one .junk, .one .junk, .one .junk, .one .junk, .one .junk, .one .junk, .one .junk, .one .junk, .one .junk, .one .junk, .one .junk, .one .junk, .one .junk, .one .junk, .one .junk, .one .junk, .one .junk, .one .junk, .one .junk, .one .junk, .one .junk, .one .junk, .one .junk, .one .junk, .one .junk, .one .junk, .one .junk, .one .junk, .one .junk, .one .junk, .one .junk, .one .junk, .one .junk, .one .junk, .one .junk, .one .junk, .one .junk, .one .junk, .one .junk, .one .junk, .one .junk, .one .junk, .one .junk, .one .junk, .one .junk, .one .junk, .one (.d false false (.prod (.int .i64) (.list (.prod (.int .i64) (.int .i64)))) u.2.2.2.1), .one (.v false (.int .i64 u.2.2.2.2.1)), .one (.v false (.int .i64 u.2.2.2.2.2.1)), .one .junk, .one .junk, .one .junk, .one .junk, .one .junk, .one .junk, .one .junk, .one .junk, .one .junk, .one .junk, .one .junk, .one .junk, .one .junk, .one .junk, .one .junk, .one .junk, .one .junk, .one .junk, .one (.d false false (.prod (.int .i64) (.int .i64)) u.2.2.2.2.2.2.1), .one (.v false (.int .i64 u.2.2.2.2.2.2.2.1)), .one (.v false (.int .i64 v.1)), .one .junk, .one .junk, .one .junk, .one .junk, .one .junk, .one .junk, .one .junk, .one .junk, .one .junk, .one .junk, .one .junk, .one .junk, .one .junk, .one .junk, .one .junk, .one .junk, .one .junk, .one .junk, .one .junk, .one .junk, .one .junk, .one .junk, .one .junk, .one .junk, .one .junk, .one .junk, .one .junk, .one .junk, .one .junk, .one .junk, .one .junk, .one .junk, .one .junk, .one .junk], [(2070, .dead), (50, .cells [.s false 980 0 (none)]), (18, .cells [.v false (.int .i64 u.2.2.2.2.2.2.2.2.1), .v false (.int .i64 u.2.2.2.2.2.2.2.2.2.1)]), (17, .dead), (1, .cells [.v false (Value.slice none (0 : Nat) (0 : Nat))]), (0, .cells [.d false false (.prod (.int .i64) (.list (.prod (.int .i64) (.int .i64)))) u.2.2.2.2.2.2.2.2.2.2.1]), (980, .row true false false 56 (.prod (.int .i64) (.list (.prod (.int .i64) (.int .i64)))) u.2.2.2.2.2.2.2.2.2.2.2), (960, .dead), (940, .row true false false 69 (.prod (.int .i64) (.int .i64)) v.2)], 3090⟩
noncomputable def xs2_step (u : xs2_U) (v : mov_V) : Tr (mov_V ⊕ (Nat × mov_V)) :=
  match u, v with
  | (q0, _, _, _, _, _, q6, q7, _, _, _, _), (q8, q13) => .br (decide (q8 < q7)) (.br (decide ((0 : Int) ≤ q8) && decide (q8 < (↑(List.length q6) : Int))) (.br (decide ((List.length q13 + (1 : Nat)) * (16 : Nat) ≤ maxNew) && decide (List.length q13 + (1 : Nat) ≤ maxLen)) (.ret (.inl (IntKind.wrap .i64 (q8 + (1 : Int)), q13 ++ [(IntKind.wrap .i64 (Prod.fst (el_ii q6 q8) - q0), IntKind.wrap .i64 (Prod.snd (el_ii q6 q8) + q0))]))) (.bad 71)) (.bad 29)) (.ret (.inr (0, (q8, q13))))
set_option maxRecDepth 100000 in
set_option maxHeartbeats 4000000 in
theorem xs2_step_eq : ∀ (u : xs2_U) (v : mov_V), (evalC Try.prog (evalB Try.prog rfA_S69 (opens []) rfA_L68 7).1 (evalB Try.prog rfA_S69 (opens []) rfA_L68 7).2 (opens []) (rfA_L68 13) 100000 (0 :: [0, 1, 1, 1, 0, 0, 1, 1, 0, 0, 1, 0, 1, 0, 0, 1, 0, 0, 1, 0, 1, 1, 1, 1, 1, 1]) (loopOf (bodyOf Try.prog 13) [1, 1, 1, 1, 1, 1, 0, 1, 0, 0, 1, 0, 0, 1, 0, 1, 0, 0, 1, 1, 0, 0, 1, 1, 1, 0]) (xs2_St u v) []).bind (finF [0, 3, 6, 8, 12, 13, 14, 15, 16, 17, 18, 19, 20, 21, 22, 23, 24, 25, 26, 27, 28, 29, 30, 31, 32, 33, 34, 35, 36, 37, 38, 39, 40, 41, 42, 43, 44, 45, 46, 47, 48, 49, 50, 51, 52, 53, 54, 55, 56, 57, 58, 59, 60, 61, 62, 63, 64, 65, 66, 67, 68, 69, 70, 71, 72, 73, 77, 78, 79, 80, 81, 82, 83, 84, 85, 86, 87, 88, 89, 90, 91, 92, 93, 94, 98, 99, 100, 101, 102, 103, 104, 105, 106, 107, 108, 109, 110, 111, 112, 113, 114, 115, 116, 117, 118, 119, 120, 121, 122, 123, 124, 125, 126, 127, 128, 129, 130, 131] [⟨940, some 11, 0, 0, 69, (.prod (.int .i64) (.int .i64))⟩] [2070, 50, 18, 17, 1, 0, 980, 960, 940] [2070, 17, 960, 3106] 3090) = (xs2_step u v).bind (outA (xs2_St u) [.exit 4]) := by
  rintro ⟨q0, q1, q2, q3, q4, q5, q6, q7, q9, q10, q11, q12⟩ ⟨q8, q13⟩
  kernel_rfl
noncomputable def xs2_rd (b : Bool) (o1 : Option AV) (o2 : Option AV) (o4 : Option AV) (o5 : Option AV) (o7 : Option AV) (o9 : Option AV) (o10 : Option AV) (o11 : Option AV) (o74 : Option AV) (o75 : Option AV) (o76 : Option AV) (o95 : Option AV) (o96 : Option AV) (o97 : Option AV) (own : Own) : Option (xs2_U × mov_V) := zrT b <| zrO o1 fun za1 => zrA1 za1 fun zc2 => zrI .i64 zc2 fun q0 => zrO o2 fun za3 => zrA1 za3 fun zc4 => zrP 0 0 zc4 <| zrO o4 fun za5 => zrA1 za5 fun zc6 => zrP 1 0 zc6 <| zrO o5 fun za7 => zrA1 za7 fun zc8 => zrI .i64 zc8 fun q1 => zrO o7 fun za9 => zrA1 za9 fun zc10 => zrP 18 0 zc10 <| zrO o9 fun za11 => zrA1 za11 fun zc12 => zrP 50 0 zc12 <| zrO o10 fun za13 => zrA1 za13 fun zc14 => zrI .i64 zc14 fun q2 => zrO o11 fun za15 => zrA1 za15 fun zc16 => zrSl 940 0 (none) zc16 <| zrO o74 fun za17 => zrA1 za17 fun zc18 => zrD (.prod (.int .i64) (.list (.prod (.int .i64) (.int .i64)))) zc18 fun q3 => zrO o75 fun za19 => zrA1 za19 fun zc20 => zrI .i64 zc20 fun q4 => zrO o76 fun za21 => zrA1 za21 fun zc22 => zrI .i64 zc22 fun q5 => zrO o95 fun za23 => zrA1 za23 fun zc24 => zrD (.prod (.int .i64) (.int .i64)) zc24 fun q6 => zrO o96 fun za25 => zrA1 za25 fun zc26 => zrI .i64 zc26 fun q7 => zrO o97 fun za27 => zrA1 za27 fun zc28 => zrI .i64 zc28 fun q8 => zrL own fun zq29 zw30 => zrKey 2070 zq29 fun zk31 => zrX zk31 <| zrL zw30 fun zq32 zw33 => zrKey 50 zq32 fun zk34 => zrC zk34 fun zl35 => zrL zl35 fun zc36 zr37 => zrSl 980 0 (none) zc36 <| zrN zr37 <| zrL zw33 fun zq38 zw39 => zrKey 18 zq38 fun zk40 => zrC zk40 fun zl41 => zrL zl41 fun zc42 zr43 => zrI .i64 zc42 fun q9 => zrL zr43 fun zc44 zr45 => zrI .i64 zc44 fun q10 => zrN zr45 <| zrL zw39 fun zq46 zw47 => zrKey 17 zq46 fun zk48 => zrX zk48 <| zrL zw47 fun zq49 zw50 => zrKey 1 zq49 fun zk51 => zrC zk51 fun zl52 => zrL zl52 fun zc53 zr54 => zrNil zc53 <| zrN zr54 <| zrL zw50 fun zq55 zw56 => zrKey 0 zq55 fun zk57 => zrC zk57 fun zl58 => zrL zl58 fun zc59 zr60 => zrD (.prod (.int .i64) (.list (.prod (.int .i64) (.int .i64)))) zc59 fun q11 => zrN zr60 <| zrL zw56 fun zq61 zw62 => zrKey 980 zq61 fun zk63 => zrR true 56 (.prod (.int .i64) (.list (.prod (.int .i64) (.int .i64)))) zk63 fun q12 => zrL zw62 fun zq64 zw65 => zrKey 960 zq64 fun zk66 => zrX zk66 <| zrL zw65 fun zq67 zw68 => zrKey 940 zq67 fun zk69 => zrR true 69 (.prod (.int .i64) (.int .i64)) zk69 fun q13 => zrN zw68 <| some ((q0, q1, q2, q3, q4, q5, q6, q7, q9, q10, q11, q12), (q8, q13))
noncomputable def xs2_can (st : Stt) : Stt := canA [0, 3, 6, 8, 12, 13, 14, 15, 16, 17, 18, 19, 20, 21, 22, 23, 24, 25, 26, 27, 28, 29, 30, 31, 32, 33, 34, 35, 36, 37, 38, 39, 40, 41, 42, 43, 44, 45, 46, 47, 48, 49, 50, 51, 52, 53, 54, 55, 56, 57, 58, 59, 60, 61, 62, 63, 64, 65, 66, 67, 68, 69, 70, 71, 72, 73, 77, 78, 79, 80, 81, 82, 83, 84, 85, 86, 87, 88, 89, 90, 91, 92, 93, 94, 98, 99, 100, 101, 102, 103, 104, 105, 106, 107, 108, 109, 110, 111, 112, 113, 114, 115, 116, 117, 118, 119, 120, 121, 122, 123, 124, 125, 126, 127, 128, 129, 130, 131] [⟨940, some 11, 0, 0, 69, (.prod (.int .i64) (.int .i64))⟩] [2070, 50, 18, 17, 1, 0, 980, 960, 940] [2070, 17, 960, 3106] 3090 st
noncomputable def xs2_cok (st : Stt) : Bool := canAok [0, 3, 6, 8, 12, 13, 14, 15, 16, 17, 18, 19, 20, 21, 22, 23, 24, 25, 26, 27, 28, 29, 30, 31, 32, 33, 34, 35, 36, 37, 38, 39, 40, 41, 42, 43, 44, 45, 46, 47, 48, 49, 50, 51, 52, 53, 54, 55, 56, 57, 58, 59, 60, 61, 62, 63, 64, 65, 66, 67, 68, 69, 70, 71, 72, 73, 77, 78, 79, 80, 81, 82, 83, 84, 85, 86, 87, 88, 89, 90, 91, 92, 93, 94, 98, 99, 100, 101, 102, 103, 104, 105, 106, 107, 108, 109, 110, 111, 112, 113, 114, 115, 116, 117, 118, 119, 120, 121, 122, 123, 124, 125, 126, 127, 128, 129, 130, 131] [⟨940, some 11, 0, 0, 69, (.prod (.int .i64) (.int .i64))⟩] [2070, 50, 18, 17, 1, 0, 980, 960, 940] [2070, 17, 960, 3106] 3090 st
noncomputable def xs2_read (st : Stt) : Option (xs2_U × mov_V) := xs2_rd (xs2_cok st && (staysA [⟨940, some 11, 0, 0, 69, (.prod (.int .i64) (.int .i64))⟩] [2070, 50, 18, 17, 1, 0, 980, 960, 940] st.own && juAll [0, 3, 6, 8, 12, 13, 14, 15, 16, 17, 18, 19, 20, 21, 22, 23, 24, 25, 26, 27, 28, 29, 30, 31, 32, 33, 34, 35, 36, 37, 38, 39, 40, 41, 42, 43, 44, 45, 46, 47, 48, 49, 50, 51, 52, 53, 54, 55, 56, 57, 58, 59, 60, 61, 62, 63, 64, 65, 66, 67, 68, 69, 70, 71, 72, 73, 77, 78, 79, 80, 81, 82, 83, 84, 85, 86, 87, 88, 89, 90, 91, 92, 93, 94, 98, 99, 100, 101, 102, 103, 104, 105, 106, 107, 108, 109, 110, 111, 112, 113, 114, 115, 116, 117, 118, 119, 120, 121, 122, 123, 124, 125, 126, 127, 128, 129, 130, 131] (xs2_can st).tm 132)) (xs2_can st).tm[1]? (xs2_can st).tm[2]? (xs2_can st).tm[4]? (xs2_can st).tm[5]? (xs2_can st).tm[7]? (xs2_can st).tm[9]? (xs2_can st).tm[10]? (xs2_can st).tm[11]? (xs2_can st).tm[74]? (xs2_can st).tm[75]? (xs2_can st).tm[76]? (xs2_can st).tm[95]? (xs2_can st).tm[96]? (xs2_can st).tm[97]? (xs2_can st).own
set_option maxRecDepth 100000 in
set_option maxHeartbeats 4000000 in
theorem xs2_rd_ok {b : Bool} {tm : List AV} {own : Own} {u : xs2_U} {v : mov_V} (hj : b = true → juAll [0, 3, 6, 8, 12, 13, 14, 15, 16, 17, 18, 19, 20, 21, 22, 23, 24, 25, 26, 27, 28, 29, 30, 31, 32, 33, 34, 35, 36, 37, 38, 39, 40, 41, 42, 43, 44, 45, 46, 47, 48, 49, 50, 51, 52, 53, 54, 55, 56, 57, 58, 59, 60, 61, 62, 63, 64, 65, 66, 67, 68, 69, 70, 71, 72, 73, 77, 78, 79, 80, 81, 82, 83, 84, 85, 86, 87, 88, 89, 90, 91, 92, 93, 94, 98, 99, 100, 101, 102, 103, 104, 105, 106, 107, 108, 109, 110, 111, 112, 113, 114, 115, 116, 117, 118, 119, 120, 121, 122, 123, 124, 125, 126, 127, 128, 129, 130, 131] tm 132 = true) (h : xs2_rd b tm[1]? tm[2]? tm[4]? tm[5]? tm[7]? tm[9]? tm[10]? tm[11]? tm[74]? tm[75]? tm[76]? tm[95]? tm[96]? tm[97]? own = some (u, v)) : b = true ∧ tm = (xs2_St u v).tm ∧ own = (xs2_St u v).own := by
  unfold xs2_rd at h
  obtain ⟨rfl, h0⟩ := zrT_some h
  obtain ⟨za1, e1, h1⟩ := zrO_some h0
  obtain ⟨zc2, rfl, h2⟩ := zrA1_some h1
  obtain ⟨q0, rfl, h3⟩ := zrI_some h2
  obtain ⟨za3, e2, h4⟩ := zrO_some h3
  obtain ⟨zc4, rfl, h5⟩ := zrA1_some h4
  obtain ⟨rfl, h6⟩ := zrP_some h5
  obtain ⟨za5, e4, h7⟩ := zrO_some h6
  obtain ⟨zc6, rfl, h8⟩ := zrA1_some h7
  obtain ⟨rfl, h9⟩ := zrP_some h8
  obtain ⟨za7, e5, h10⟩ := zrO_some h9
  obtain ⟨zc8, rfl, h11⟩ := zrA1_some h10
  obtain ⟨q1, rfl, h12⟩ := zrI_some h11
  obtain ⟨za9, e7, h13⟩ := zrO_some h12
  obtain ⟨zc10, rfl, h14⟩ := zrA1_some h13
  obtain ⟨rfl, h15⟩ := zrP_some h14
  obtain ⟨za11, e9, h16⟩ := zrO_some h15
  obtain ⟨zc12, rfl, h17⟩ := zrA1_some h16
  obtain ⟨rfl, h18⟩ := zrP_some h17
  obtain ⟨za13, e10, h19⟩ := zrO_some h18
  obtain ⟨zc14, rfl, h20⟩ := zrA1_some h19
  obtain ⟨q2, rfl, h21⟩ := zrI_some h20
  obtain ⟨za15, e11, h22⟩ := zrO_some h21
  obtain ⟨zc16, rfl, h23⟩ := zrA1_some h22
  obtain ⟨rfl, h24⟩ := zrSl_some h23
  obtain ⟨za17, e74, h25⟩ := zrO_some h24
  obtain ⟨zc18, rfl, h26⟩ := zrA1_some h25
  obtain ⟨q3, rfl, h27⟩ := zrD_some h26
  obtain ⟨za19, e75, h28⟩ := zrO_some h27
  obtain ⟨zc20, rfl, h29⟩ := zrA1_some h28
  obtain ⟨q4, rfl, h30⟩ := zrI_some h29
  obtain ⟨za21, e76, h31⟩ := zrO_some h30
  obtain ⟨zc22, rfl, h32⟩ := zrA1_some h31
  obtain ⟨q5, rfl, h33⟩ := zrI_some h32
  obtain ⟨za23, e95, h34⟩ := zrO_some h33
  obtain ⟨zc24, rfl, h35⟩ := zrA1_some h34
  obtain ⟨q6, rfl, h36⟩ := zrD_some h35
  obtain ⟨za25, e96, h37⟩ := zrO_some h36
  obtain ⟨zc26, rfl, h38⟩ := zrA1_some h37
  obtain ⟨q7, rfl, h39⟩ := zrI_some h38
  obtain ⟨za27, e97, h40⟩ := zrO_some h39
  obtain ⟨zc28, rfl, h41⟩ := zrA1_some h40
  obtain ⟨q8, rfl, h42⟩ := zrI_some h41
  obtain ⟨zq29, zw30, rfl, h43⟩ := zrL_some h42
  obtain ⟨zk31, rfl, h44⟩ := zrKey_some h43
  obtain ⟨rfl, h45⟩ := zrX_some h44
  obtain ⟨zq32, zw33, rfl, h46⟩ := zrL_some h45
  obtain ⟨zk34, rfl, h47⟩ := zrKey_some h46
  obtain ⟨zl35, rfl, h48⟩ := zrC_some h47
  obtain ⟨zc36, zr37, rfl, h49⟩ := zrL_some h48
  obtain ⟨rfl, h50⟩ := zrSl_some h49
  obtain ⟨rfl, h51⟩ := zrN_some h50
  obtain ⟨zq38, zw39, rfl, h52⟩ := zrL_some h51
  obtain ⟨zk40, rfl, h53⟩ := zrKey_some h52
  obtain ⟨zl41, rfl, h54⟩ := zrC_some h53
  obtain ⟨zc42, zr43, rfl, h55⟩ := zrL_some h54
  obtain ⟨q9, rfl, h56⟩ := zrI_some h55
  obtain ⟨zc44, zr45, rfl, h57⟩ := zrL_some h56
  obtain ⟨q10, rfl, h58⟩ := zrI_some h57
  obtain ⟨rfl, h59⟩ := zrN_some h58
  obtain ⟨zq46, zw47, rfl, h60⟩ := zrL_some h59
  obtain ⟨zk48, rfl, h61⟩ := zrKey_some h60
  obtain ⟨rfl, h62⟩ := zrX_some h61
  obtain ⟨zq49, zw50, rfl, h63⟩ := zrL_some h62
  obtain ⟨zk51, rfl, h64⟩ := zrKey_some h63
  obtain ⟨zl52, rfl, h65⟩ := zrC_some h64
  obtain ⟨zc53, zr54, rfl, h66⟩ := zrL_some h65
  obtain ⟨rfl, h67⟩ := zrNil_some h66
  obtain ⟨rfl, h68⟩ := zrN_some h67
  obtain ⟨zq55, zw56, rfl, h69⟩ := zrL_some h68
  obtain ⟨zk57, rfl, h70⟩ := zrKey_some h69
  obtain ⟨zl58, rfl, h71⟩ := zrC_some h70
  obtain ⟨zc59, zr60, rfl, h72⟩ := zrL_some h71
  obtain ⟨q11, rfl, h73⟩ := zrD_some h72
  obtain ⟨rfl, h74⟩ := zrN_some h73
  obtain ⟨zq61, zw62, rfl, h75⟩ := zrL_some h74
  obtain ⟨zk63, rfl, h76⟩ := zrKey_some h75
  obtain ⟨q12, rfl, h77⟩ := zrR_some h76
  obtain ⟨zq64, zw65, rfl, h78⟩ := zrL_some h77
  obtain ⟨zk66, rfl, h79⟩ := zrKey_some h78
  obtain ⟨rfl, h80⟩ := zrX_some h79
  obtain ⟨zq67, zw68, rfl, h81⟩ := zrL_some h80
  obtain ⟨zk69, rfl, h82⟩ := zrKey_some h81
  obtain ⟨q13, rfl, h83⟩ := zrR_some h82
  obtain ⟨rfl, h84⟩ := zrN_some h83
  have h := Option.some.inj h84
  have hu := congrArg Prod.fst h
  have hv := congrArg Prod.snd h
  dsimp only at hu hv
  subst hu
  subst hv
  exact ⟨rfl, (tm_fill (hj rfl) (Lv := [(1, .one (.v false (.int .i64 q0))), (2, .one (.p 0 0)), (4, .one (.p 1 0)), (5, .one (.v false (.int .i64 q1))), (7, .one (.p 18 0)), (9, .one (.p 50 0)), (10, .one (.v false (.int .i64 q2))), (11, .one (.s false 940 0 (none))), (74, .one (.d false false (.prod (.int .i64) (.list (.prod (.int .i64) (.int .i64)))) q3)), (75, .one (.v false (.int .i64 q4))), (76, .one (.v false (.int .i64 q5))), (95, .one (.d false false (.prod (.int .i64) (.int .i64)) q6)), (96, .one (.v false (.int .i64 q7))), (97, .one (.v false (.int .i64 q8)))]) (by kernel_rfl) ⟨e1, e2, e4, e5, e7, e9, e10, e11, e74, e75, e76, e95, e96, e97, trivial⟩).trans (by kernel_rfl), rfl⟩
theorem xs2_read_ok (st : Stt) (u : xs2_U) (v : mov_V) (h : xs2_read st = some (u, v)) : xs2_cok st = true ∧ staysA [⟨940, some 11, 0, 0, 69, (.prod (.int .i64) (.int .i64))⟩] [2070, 50, 18, 17, 1, 0, 980, 960, 940] st.own = true ∧ xs2_can st = xs2_St u v := by
  obtain ⟨h1, h2, h3⟩ := xs2_rd_ok (fun hb => by rw [Bool.and_eq_true, Bool.and_eq_true] at hb; exact hb.2.2) h
  rw [Bool.and_eq_true, Bool.and_eq_true] at h1
  refine ⟨h1.1, h1.2.1, ?_⟩
  have e : xs2_can st = ⟨(xs2_can st).tm, (xs2_can st).own, 3090⟩ := by kernel_rfl
  rw [e, h2, h3]
  rfl
noncomputable def xs2_cond (u : xs2_U) (v : mov_V) : Bool := runC (xs2_step u) v
noncomputable def xs2_g (u : xs2_U) (v : mov_V) : Nat × mov_V := runG (xs2_step u) v
theorem xs2_hg : ∀ (u : xs2_U) (v : mov_V), xs2_cond u v = true → loopN (xs2_step u) ((fun u v => runF (xs2_step u) v) u v) v = some (xs2_g u v) := by
  exact fun u v h => run_hg h
noncomputable def xs2_m (st : Stt) : Option (Tr (Ex × Stt)) := sumM xs2_read xs2_cond xs2_St xs2_g [(0, .exit 4)] st
noncomputable def rfB_L51 : FuncId → Loops := addL 13 [0, 1, 1, 1, 0, 0, 1, 1, 0, 0, 1, 0, 1, 0, 0, 1, 0, 0, 1, 0, 1, 1, 1, 1, 1, 1] xs2_m rfA_L68
set_option maxRecDepth 100000 in
set_option maxHeartbeats 4000000 in
theorem rfB_L51_ok : LoopsOK Try.prog rfB_L51 :=
  loop_sumF (body := (bodyOf Try.prog 13)) (c := (loopOf (bodyOf Try.prog 13) [1, 1, 1, 1, 1, 1, 0, 1, 0, 0, 1, 0, 0, 1, 0, 1, 0, 0, 1, 1, 0, 0, 1, 1, 1, 0])) (kinds := [.exit 4]) (allow := [(0, .exit 4)]) (St := xs2_St) (step := xs2_step) (W := [0, 3, 6, 8, 12, 13, 14, 15, 16, 17, 18, 19, 20, 21, 22, 23, 24, 25, 26, 27, 28, 29, 30, 31, 32, 33, 34, 35, 36, 37, 38, 39, 40, 41, 42, 43, 44, 45, 46, 47, 48, 49, 50, 51, 52, 53, 54, 55, 56, 57, 58, 59, 60, 61, 62, 63, 64, 65, 66, 67, 68, 69, 70, 71, 72, 73, 77, 78, 79, 80, 81, 82, 83, 84, 85, 86, 87, 88, 89, 90, 91, 92, 93, 94, 98, 99, 100, 101, 102, 103, 104, 105, 106, 107, 108, 109, 110, 111, 112, 113, 114, 115, 116, 117, 118, 119, 120, 121, 122, 123, 124, 125, 126, 127, 128, 129, 130, 131]) (As := [⟨940, some 11, 0, 0, 69, (.prod (.int .i64) (.int .i64))⟩]) (ks := [2070, 50, 18, 17, 1, 0, 980, 960, 940]) (dd := [2070, 17, 960, 3106]) (nx := 3090) (n := 100000) (g := xs2_g) (cond := xs2_cond) (fuel := (fun u v => runF (xs2_step u) v)) (read := xs2_read) (by kernel_rfl) (rfA_S69_ok) (rfA_L68_ok) 7 ⟨Try.f13, by kernel_rfl, by kernel_rfl⟩ (by kernel_rfl) (by kernel_rfl) (by kernel_rfl) xs2_step_eq xs2_hg xs2_read_ok
abbrev xs1_U : Type := Int × Int × Int × (Ty.list (.prod (.int .i64) (.list (.prod (.int .i64) (.int .i64))))).den × Int × Int × Int × (Ty.list (.prod (.int .i64) (.list (.prod (.int .i64) (.int .i64))))).den × (Ty.list (.prod (.int .i64) (.list (.prod (.int .i64) (.int .i64))))).den
noncomputable def xs1_St (u : xs1_U) (v : mov_V) : Stt := ⟨[.one .junk, .one (.v false (.int .i64 u.1)), .one (.p 0 0), .one .junk, .one (.p 1 0), .one (.v false (.int .i64 u.2.1)), .one .junk, .one (.p 18 0), .one .junk, .one (.p 50 0), .one (.v false (.int .i64 u.2.2.1)), .one (.s false 960 0 (none)), .one .junk, .one .junk, .one .junk, .one .junk, .one .junk, .one .junk, .one .junk, .one .junk, .one .junk, .one .junk, .one .junk, .one .junk, .one .junk, .one .junk, .one .junk, .one .junk, .one .junk, .one .junk, .one .junk, .one .junk, .one .junk, .one .junk, .one .junk, .one .junk, .one .junk, .one .junk, .one .junk, .one .junk, .one .junk, .one .junk, .one .junk, .one .junk, .one .junk, .one .junk, .one .junk, .one .junk, .one .junk, .one .junk, .one .junk, .one .junk, .one .junk, .one .junk, .one .junk, .one .junk, .one .junk, .one .junk, .one .junk, .one .junk, .one .junk, .one .junk, .one .junk, .one .junk, .one .junk, .one .junk, .one .junk, .one .junk, .one .junk, .one .junk, .one .junk, .one .junk, .one .junk, .one .junk, .one (.d false false (.prod (.int .i64) (.list (.prod (.int .i64) (.int .i64)))) u.2.2.2.1), .one (.v false (.int .i64 u.2.2.2.2.1)), .one (.v false (.int .i64 v.1)), .one .junk, .one .junk, .one .junk, .one .junk, .one .junk, .one .junk, .one .junk, .one .junk, .one .junk, .one .junk, .one .junk, .one .junk, .one .junk, .one .junk, .one .junk, .one .junk, .one .junk, .one .junk, .one .junk, .one .junk, .one .junk, .one .junk, .one .junk, .one .junk, .one .junk, .one .junk, .one .junk, .one .junk, .one .junk, .one .junk, .one .junk, .one .junk, .one .junk, .one .junk, .one .junk, .one .junk, .one .junk, .one .junk, .one .junk, .one .junk, .one .junk, .one .junk, .one .junk, .one .junk, .one .junk, .one .junk, .one .junk, .one .junk, .one .junk, .one .junk, .one .junk, .one .junk, .one .junk, .one .junk, .one .junk], [(50, .cells [.s false 980 0 (none)]), (18, .cells [.v false (.int .i64 u.2.2.2.2.2.1), .v false (.int .i64 u.2.2.2.2.2.2.1)]), (17, .dead), (1, .cells [.v false (Value.slice none (0 : Nat) (0 : Nat))]), (0, .cells [.d false false (.prod (.int .i64) (.list (.prod (.int .i64) (.int .i64)))) u.2.2.2.2.2.2.2.1]), (980, .row true false false 56 (.prod (.int .i64) (.list (.prod (.int .i64) (.int .i64)))) u.2.2.2.2.2.2.2.2), (960, .row true false false 69 (.prod (.int .i64) (.int .i64)) v.2)], 2067⟩
noncomputable def xs1_step (u : xs1_U) (v : mov_V) : Tr (mov_V ⊕ (Nat × mov_V)) :=
  match u, v with
  | (q0, q1, q2, q3, q4, q6, q7, q8, q9), (q5, q10) => .br (decide (q5 < q4)) (.br (decide ((0 : Int) ≤ q5) && decide (q5 < (↑(List.length q3) : Int))) (.br (bif decide (Prod.fst (el_ilii q3 q5) < IntKind.wrap .i64 (q2 - q0)) then true else decide (Prod.fst (el_ilii q3 q5) > IntKind.wrap .i64 (q2 + q0))) (.ret (.inl (IntKind.wrap .i64 (q5 + (1 : Int)), q10))) (.br (xs2_cond (q0, q1, q2, q3, q4, q5, Prod.snd (el_ilii q3 q5), (↑(List.length (Prod.snd (el_ilii q3 q5))) : Int), q6, q7, q8, q9) ((0 : Int), q10)) (.br (Nat.beq (Prod.fst (xs2_g (q0, q1, q2, q3, q4, q5, Prod.snd (el_ilii q3 q5), (↑(List.length (Prod.snd (el_ilii q3 q5))) : Int), q6, q7, q8, q9) ((0 : Int), q10))) (0 : Nat)) (.ret (.inl (IntKind.wrap .i64 (q5 + (1 : Int)), Prod.snd (Prod.snd (xs2_g (q0, q1, q2, q3, q4, q5, Prod.snd (el_ilii q3 q5), (↑(List.length (Prod.snd (el_ilii q3 q5))) : Int), q6, q7, q8, q9) ((0 : Int), q10)))))) (.bad 902)) (.bad 901))) (.bad 29)) (.ret (.inr (0, (q5, q10))))
set_option maxRecDepth 100000 in
set_option maxHeartbeats 4000000 in
theorem xs1_step_eq : ∀ (u : xs1_U) (v : mov_V), (evalC Try.prog (evalB Try.prog rfA_S69 (opens []) rfB_L51 7).1 (evalB Try.prog rfA_S69 (opens []) rfB_L51 7).2 (opens []) (rfB_L51 13) 100000 (0 :: [0, 1, 0, 1, 0, 0, 1, 0, 0, 1, 0, 1, 1, 1, 1, 1, 1]) (loopOf (bodyOf Try.prog 13) [1, 1, 1, 1, 1, 1, 0, 1, 0, 0, 1, 0, 0, 1, 0, 1, 0]) (xs1_St u v) []).bind (finF [0, 3, 6, 8, 12, 13, 14, 15, 16, 17, 18, 19, 20, 21, 22, 23, 24, 25, 26, 27, 28, 29, 30, 31, 32, 33, 34, 35, 36, 37, 38, 39, 40, 41, 42, 43, 44, 45, 46, 47, 48, 49, 50, 51, 52, 53, 54, 55, 56, 57, 58, 59, 60, 61, 62, 63, 64, 65, 66, 67, 68, 69, 70, 71, 72, 73, 77, 78, 79, 80, 81, 82, 83, 84, 85, 86, 87, 88, 89, 90, 91, 92, 93, 94, 95, 96, 97, 98, 99, 100, 101, 102, 103, 104, 105, 106, 107, 108, 109, 110, 111, 112, 113, 114, 115, 116, 117, 118, 119, 120, 121, 122, 123, 124, 125, 126, 127, 128, 129, 130, 131] [⟨960, some 11, 0, 0, 69, (.prod (.int .i64) (.int .i64))⟩] [50, 18, 17, 1, 0, 980, 960] [17, 940] 2067) = (xs1_step u v).bind (outA (xs1_St u) [.exit 2]) := by
  rintro ⟨q0, q1, q2, q3, q4, q6, q7, q8, q9⟩ ⟨q5, q10⟩
  kernel_rfl
noncomputable def xs1_rd (b : Bool) (o1 : Option AV) (o2 : Option AV) (o4 : Option AV) (o5 : Option AV) (o7 : Option AV) (o9 : Option AV) (o10 : Option AV) (o11 : Option AV) (o74 : Option AV) (o75 : Option AV) (o76 : Option AV) (own : Own) : Option (xs1_U × mov_V) := zrT b <| zrO o1 fun za1 => zrA1 za1 fun zc2 => zrI .i64 zc2 fun q0 => zrO o2 fun za3 => zrA1 za3 fun zc4 => zrP 0 0 zc4 <| zrO o4 fun za5 => zrA1 za5 fun zc6 => zrP 1 0 zc6 <| zrO o5 fun za7 => zrA1 za7 fun zc8 => zrI .i64 zc8 fun q1 => zrO o7 fun za9 => zrA1 za9 fun zc10 => zrP 18 0 zc10 <| zrO o9 fun za11 => zrA1 za11 fun zc12 => zrP 50 0 zc12 <| zrO o10 fun za13 => zrA1 za13 fun zc14 => zrI .i64 zc14 fun q2 => zrO o11 fun za15 => zrA1 za15 fun zc16 => zrSl 960 0 (none) zc16 <| zrO o74 fun za17 => zrA1 za17 fun zc18 => zrD (.prod (.int .i64) (.list (.prod (.int .i64) (.int .i64)))) zc18 fun q3 => zrO o75 fun za19 => zrA1 za19 fun zc20 => zrI .i64 zc20 fun q4 => zrO o76 fun za21 => zrA1 za21 fun zc22 => zrI .i64 zc22 fun q5 => zrL own fun zq23 zw24 => zrKey 50 zq23 fun zk25 => zrC zk25 fun zl26 => zrL zl26 fun zc27 zr28 => zrSl 980 0 (none) zc27 <| zrN zr28 <| zrL zw24 fun zq29 zw30 => zrKey 18 zq29 fun zk31 => zrC zk31 fun zl32 => zrL zl32 fun zc33 zr34 => zrI .i64 zc33 fun q6 => zrL zr34 fun zc35 zr36 => zrI .i64 zc35 fun q7 => zrN zr36 <| zrL zw30 fun zq37 zw38 => zrKey 17 zq37 fun zk39 => zrX zk39 <| zrL zw38 fun zq40 zw41 => zrKey 1 zq40 fun zk42 => zrC zk42 fun zl43 => zrL zl43 fun zc44 zr45 => zrNil zc44 <| zrN zr45 <| zrL zw41 fun zq46 zw47 => zrKey 0 zq46 fun zk48 => zrC zk48 fun zl49 => zrL zl49 fun zc50 zr51 => zrD (.prod (.int .i64) (.list (.prod (.int .i64) (.int .i64)))) zc50 fun q8 => zrN zr51 <| zrL zw47 fun zq52 zw53 => zrKey 980 zq52 fun zk54 => zrR true 56 (.prod (.int .i64) (.list (.prod (.int .i64) (.int .i64)))) zk54 fun q9 => zrL zw53 fun zq55 zw56 => zrKey 960 zq55 fun zk57 => zrR true 69 (.prod (.int .i64) (.int .i64)) zk57 fun q10 => zrN zw56 <| some ((q0, q1, q2, q3, q4, q6, q7, q8, q9), (q5, q10))
noncomputable def xs1_can (st : Stt) : Stt := canA [0, 3, 6, 8, 12, 13, 14, 15, 16, 17, 18, 19, 20, 21, 22, 23, 24, 25, 26, 27, 28, 29, 30, 31, 32, 33, 34, 35, 36, 37, 38, 39, 40, 41, 42, 43, 44, 45, 46, 47, 48, 49, 50, 51, 52, 53, 54, 55, 56, 57, 58, 59, 60, 61, 62, 63, 64, 65, 66, 67, 68, 69, 70, 71, 72, 73, 77, 78, 79, 80, 81, 82, 83, 84, 85, 86, 87, 88, 89, 90, 91, 92, 93, 94, 95, 96, 97, 98, 99, 100, 101, 102, 103, 104, 105, 106, 107, 108, 109, 110, 111, 112, 113, 114, 115, 116, 117, 118, 119, 120, 121, 122, 123, 124, 125, 126, 127, 128, 129, 130, 131] [⟨960, some 11, 0, 0, 69, (.prod (.int .i64) (.int .i64))⟩] [50, 18, 17, 1, 0, 980, 960] [17, 940] 2067 st
noncomputable def xs1_cok (st : Stt) : Bool := canAok [0, 3, 6, 8, 12, 13, 14, 15, 16, 17, 18, 19, 20, 21, 22, 23, 24, 25, 26, 27, 28, 29, 30, 31, 32, 33, 34, 35, 36, 37, 38, 39, 40, 41, 42, 43, 44, 45, 46, 47, 48, 49, 50, 51, 52, 53, 54, 55, 56, 57, 58, 59, 60, 61, 62, 63, 64, 65, 66, 67, 68, 69, 70, 71, 72, 73, 77, 78, 79, 80, 81, 82, 83, 84, 85, 86, 87, 88, 89, 90, 91, 92, 93, 94, 95, 96, 97, 98, 99, 100, 101, 102, 103, 104, 105, 106, 107, 108, 109, 110, 111, 112, 113, 114, 115, 116, 117, 118, 119, 120, 121, 122, 123, 124, 125, 126, 127, 128, 129, 130, 131] [⟨960, some 11, 0, 0, 69, (.prod (.int .i64) (.int .i64))⟩] [50, 18, 17, 1, 0, 980, 960] [17, 940] 2067 st
noncomputable def xs1_read (st : Stt) : Option (xs1_U × mov_V) := xs1_rd (xs1_cok st && (staysA [⟨960, some 11, 0, 0, 69, (.prod (.int .i64) (.int .i64))⟩] [50, 18, 17, 1, 0, 980, 960] st.own && juAll [0, 3, 6, 8, 12, 13, 14, 15, 16, 17, 18, 19, 20, 21, 22, 23, 24, 25, 26, 27, 28, 29, 30, 31, 32, 33, 34, 35, 36, 37, 38, 39, 40, 41, 42, 43, 44, 45, 46, 47, 48, 49, 50, 51, 52, 53, 54, 55, 56, 57, 58, 59, 60, 61, 62, 63, 64, 65, 66, 67, 68, 69, 70, 71, 72, 73, 77, 78, 79, 80, 81, 82, 83, 84, 85, 86, 87, 88, 89, 90, 91, 92, 93, 94, 95, 96, 97, 98, 99, 100, 101, 102, 103, 104, 105, 106, 107, 108, 109, 110, 111, 112, 113, 114, 115, 116, 117, 118, 119, 120, 121, 122, 123, 124, 125, 126, 127, 128, 129, 130, 131] (xs1_can st).tm 132)) (xs1_can st).tm[1]? (xs1_can st).tm[2]? (xs1_can st).tm[4]? (xs1_can st).tm[5]? (xs1_can st).tm[7]? (xs1_can st).tm[9]? (xs1_can st).tm[10]? (xs1_can st).tm[11]? (xs1_can st).tm[74]? (xs1_can st).tm[75]? (xs1_can st).tm[76]? (xs1_can st).own
set_option maxRecDepth 100000 in
set_option maxHeartbeats 4000000 in
theorem xs1_rd_ok {b : Bool} {tm : List AV} {own : Own} {u : xs1_U} {v : mov_V} (hj : b = true → juAll [0, 3, 6, 8, 12, 13, 14, 15, 16, 17, 18, 19, 20, 21, 22, 23, 24, 25, 26, 27, 28, 29, 30, 31, 32, 33, 34, 35, 36, 37, 38, 39, 40, 41, 42, 43, 44, 45, 46, 47, 48, 49, 50, 51, 52, 53, 54, 55, 56, 57, 58, 59, 60, 61, 62, 63, 64, 65, 66, 67, 68, 69, 70, 71, 72, 73, 77, 78, 79, 80, 81, 82, 83, 84, 85, 86, 87, 88, 89, 90, 91, 92, 93, 94, 95, 96, 97, 98, 99, 100, 101, 102, 103, 104, 105, 106, 107, 108, 109, 110, 111, 112, 113, 114, 115, 116, 117, 118, 119, 120, 121, 122, 123, 124, 125, 126, 127, 128, 129, 130, 131] tm 132 = true) (h : xs1_rd b tm[1]? tm[2]? tm[4]? tm[5]? tm[7]? tm[9]? tm[10]? tm[11]? tm[74]? tm[75]? tm[76]? own = some (u, v)) : b = true ∧ tm = (xs1_St u v).tm ∧ own = (xs1_St u v).own := by
  unfold xs1_rd at h
  obtain ⟨rfl, h0⟩ := zrT_some h
  obtain ⟨za1, e1, h1⟩ := zrO_some h0
  obtain ⟨zc2, rfl, h2⟩ := zrA1_some h1
  obtain ⟨q0, rfl, h3⟩ := zrI_some h2
  obtain ⟨za3, e2, h4⟩ := zrO_some h3
  obtain ⟨zc4, rfl, h5⟩ := zrA1_some h4
  obtain ⟨rfl, h6⟩ := zrP_some h5
  obtain ⟨za5, e4, h7⟩ := zrO_some h6
  obtain ⟨zc6, rfl, h8⟩ := zrA1_some h7
  obtain ⟨rfl, h9⟩ := zrP_some h8
  obtain ⟨za7, e5, h10⟩ := zrO_some h9
  obtain ⟨zc8, rfl, h11⟩ := zrA1_some h10
  obtain ⟨q1, rfl, h12⟩ := zrI_some h11
  obtain ⟨za9, e7, h13⟩ := zrO_some h12
  obtain ⟨zc10, rfl, h14⟩ := zrA1_some h13
  obtain ⟨rfl, h15⟩ := zrP_some h14
  obtain ⟨za11, e9, h16⟩ := zrO_some h15
  obtain ⟨zc12, rfl, h17⟩ := zrA1_some h16
  obtain ⟨rfl, h18⟩ := zrP_some h17
  obtain ⟨za13, e10, h19⟩ := zrO_some h18
  obtain ⟨zc14, rfl, h20⟩ := zrA1_some h19
  obtain ⟨q2, rfl, h21⟩ := zrI_some h20
  obtain ⟨za15, e11, h22⟩ := zrO_some h21
  obtain ⟨zc16, rfl, h23⟩ := zrA1_some h22
  obtain ⟨rfl, h24⟩ := zrSl_some h23
  obtain ⟨za17, e74, h25⟩ := zrO_some h24
  obtain ⟨zc18, rfl, h26⟩ := zrA1_some h25
  obtain ⟨q3, rfl, h27⟩ := zrD_some h26
  obtain ⟨za19, e75, h28⟩ := zrO_some h27
  obtain ⟨zc20, rfl, h29⟩ := zrA1_some h28
  obtain ⟨q4, rfl, h30⟩ := zrI_some h29
  obtain ⟨za21, e76, h31⟩ := zrO_some h30
  obtain ⟨zc22, rfl, h32⟩ := zrA1_some h31
  obtain ⟨q5, rfl, h33⟩ := zrI_some h32
  obtain ⟨zq23, zw24, rfl, h34⟩ := zrL_some h33
  obtain ⟨zk25, rfl, h35⟩ := zrKey_some h34
  obtain ⟨zl26, rfl, h36⟩ := zrC_some h35
  obtain ⟨zc27, zr28, rfl, h37⟩ := zrL_some h36
  obtain ⟨rfl, h38⟩ := zrSl_some h37
  obtain ⟨rfl, h39⟩ := zrN_some h38
  obtain ⟨zq29, zw30, rfl, h40⟩ := zrL_some h39
  obtain ⟨zk31, rfl, h41⟩ := zrKey_some h40
  obtain ⟨zl32, rfl, h42⟩ := zrC_some h41
  obtain ⟨zc33, zr34, rfl, h43⟩ := zrL_some h42
  obtain ⟨q6, rfl, h44⟩ := zrI_some h43
  obtain ⟨zc35, zr36, rfl, h45⟩ := zrL_some h44
  obtain ⟨q7, rfl, h46⟩ := zrI_some h45
  obtain ⟨rfl, h47⟩ := zrN_some h46
  obtain ⟨zq37, zw38, rfl, h48⟩ := zrL_some h47
  obtain ⟨zk39, rfl, h49⟩ := zrKey_some h48
  obtain ⟨rfl, h50⟩ := zrX_some h49
  obtain ⟨zq40, zw41, rfl, h51⟩ := zrL_some h50
  obtain ⟨zk42, rfl, h52⟩ := zrKey_some h51
  obtain ⟨zl43, rfl, h53⟩ := zrC_some h52
  obtain ⟨zc44, zr45, rfl, h54⟩ := zrL_some h53
  obtain ⟨rfl, h55⟩ := zrNil_some h54
  obtain ⟨rfl, h56⟩ := zrN_some h55
  obtain ⟨zq46, zw47, rfl, h57⟩ := zrL_some h56
  obtain ⟨zk48, rfl, h58⟩ := zrKey_some h57
  obtain ⟨zl49, rfl, h59⟩ := zrC_some h58
  obtain ⟨zc50, zr51, rfl, h60⟩ := zrL_some h59
  obtain ⟨q8, rfl, h61⟩ := zrD_some h60
  obtain ⟨rfl, h62⟩ := zrN_some h61
  obtain ⟨zq52, zw53, rfl, h63⟩ := zrL_some h62
  obtain ⟨zk54, rfl, h64⟩ := zrKey_some h63
  obtain ⟨q9, rfl, h65⟩ := zrR_some h64
  obtain ⟨zq55, zw56, rfl, h66⟩ := zrL_some h65
  obtain ⟨zk57, rfl, h67⟩ := zrKey_some h66
  obtain ⟨q10, rfl, h68⟩ := zrR_some h67
  obtain ⟨rfl, h69⟩ := zrN_some h68
  have h := Option.some.inj h69
  have hu := congrArg Prod.fst h
  have hv := congrArg Prod.snd h
  dsimp only at hu hv
  subst hu
  subst hv
  exact ⟨rfl, (tm_fill (hj rfl) (Lv := [(1, .one (.v false (.int .i64 q0))), (2, .one (.p 0 0)), (4, .one (.p 1 0)), (5, .one (.v false (.int .i64 q1))), (7, .one (.p 18 0)), (9, .one (.p 50 0)), (10, .one (.v false (.int .i64 q2))), (11, .one (.s false 960 0 (none))), (74, .one (.d false false (.prod (.int .i64) (.list (.prod (.int .i64) (.int .i64)))) q3)), (75, .one (.v false (.int .i64 q4))), (76, .one (.v false (.int .i64 q5)))]) (by kernel_rfl) ⟨e1, e2, e4, e5, e7, e9, e10, e11, e74, e75, e76, trivial⟩).trans (by kernel_rfl), rfl⟩
theorem xs1_read_ok (st : Stt) (u : xs1_U) (v : mov_V) (h : xs1_read st = some (u, v)) : xs1_cok st = true ∧ staysA [⟨960, some 11, 0, 0, 69, (.prod (.int .i64) (.int .i64))⟩] [50, 18, 17, 1, 0, 980, 960] st.own = true ∧ xs1_can st = xs1_St u v := by
  obtain ⟨h1, h2, h3⟩ := xs1_rd_ok (fun hb => by rw [Bool.and_eq_true, Bool.and_eq_true] at hb; exact hb.2.2) h
  rw [Bool.and_eq_true, Bool.and_eq_true] at h1
  refine ⟨h1.1, h1.2.1, ?_⟩
  have e : xs1_can st = ⟨(xs1_can st).tm, (xs1_can st).own, 2067⟩ := by kernel_rfl
  rw [e, h2, h3]
  rfl
noncomputable def xs1_cond (u : xs1_U) (v : mov_V) : Bool := runC (xs1_step u) v
noncomputable def xs1_g (u : xs1_U) (v : mov_V) : Nat × mov_V := runG (xs1_step u) v
theorem xs1_hg : ∀ (u : xs1_U) (v : mov_V), xs1_cond u v = true → loopN (xs1_step u) ((fun u v => runF (xs1_step u) v) u v) v = some (xs1_g u v) := by
  exact fun u v h => run_hg h
noncomputable def xs1_m (st : Stt) : Option (Tr (Ex × Stt)) := sumM xs1_read xs1_cond xs1_St xs1_g [(0, .exit 2)] st
noncomputable def rfB_L52 : FuncId → Loops := addL 13 [0, 1, 0, 1, 0, 0, 1, 0, 0, 1, 0, 1, 1, 1, 1, 1, 1] xs1_m rfB_L51
set_option maxRecDepth 100000 in
set_option maxHeartbeats 4000000 in
theorem rfB_L52_ok : LoopsOK Try.prog rfB_L52 :=
  loop_sumF (body := (bodyOf Try.prog 13)) (c := (loopOf (bodyOf Try.prog 13) [1, 1, 1, 1, 1, 1, 0, 1, 0, 0, 1, 0, 0, 1, 0, 1, 0])) (kinds := [.exit 2]) (allow := [(0, .exit 2)]) (St := xs1_St) (step := xs1_step) (W := [0, 3, 6, 8, 12, 13, 14, 15, 16, 17, 18, 19, 20, 21, 22, 23, 24, 25, 26, 27, 28, 29, 30, 31, 32, 33, 34, 35, 36, 37, 38, 39, 40, 41, 42, 43, 44, 45, 46, 47, 48, 49, 50, 51, 52, 53, 54, 55, 56, 57, 58, 59, 60, 61, 62, 63, 64, 65, 66, 67, 68, 69, 70, 71, 72, 73, 77, 78, 79, 80, 81, 82, 83, 84, 85, 86, 87, 88, 89, 90, 91, 92, 93, 94, 95, 96, 97, 98, 99, 100, 101, 102, 103, 104, 105, 106, 107, 108, 109, 110, 111, 112, 113, 114, 115, 116, 117, 118, 119, 120, 121, 122, 123, 124, 125, 126, 127, 128, 129, 130, 131]) (As := [⟨960, some 11, 0, 0, 69, (.prod (.int .i64) (.int .i64))⟩]) (ks := [50, 18, 17, 1, 0, 980, 960]) (dd := [17, 940]) (nx := 2067) (n := 100000) (g := xs1_g) (cond := xs1_cond) (fuel := (fun u v => runF (xs1_step u) v)) (read := xs1_read) (by kernel_rfl) (rfA_S69_ok) (rfB_L51_ok) 7 ⟨Try.f13, by kernel_rfl, by kernel_rfl⟩ (by kernel_rfl) (by kernel_rfl) (by kernel_rfl) xs1_step_eq xs1_hg xs1_read_ok
abbrev xs0_U : Type := Int × Int × Int × Int × (Ty.list (.prod (.int .i64) (.list (.prod (.int .i64) (.int .i64))))).den
noncomputable def xs0_St (u : xs0_U) (v : ctb0_U) : Stt := ⟨[.one .junk, .one (.v false (.int .i64 u.1)), .one (.p 0 0), .one .junk, .one (.p 1 0), .one (.v false (.int .i64 u.2.1)), .one .junk, .one (.p 18 0), .one .junk, .one (.p 50 0), .one (.v false (.int .i64 v.1)), .one .junk, .one .junk, .one .junk, .one .junk, .one .junk, .one .junk, .one .junk, .one .junk, .one .junk, .one .junk, .one .junk, .one .junk, .one .junk, .one .junk, .one .junk, .one .junk, .one .junk, .one .junk, .one .junk, .one .junk, .one .junk, .one .junk, .one .junk, .one .junk, .one .junk, .one .junk, .one .junk, .one .junk, .one .junk, .one .junk, .one .junk, .one .junk, .one .junk, .one .junk, .one .junk, .one .junk, .one .junk, .one .junk, .one .junk, .one .junk, .one .junk, .one .junk, .one .junk, .one .junk, .one .junk, .one .junk, .one .junk, .one .junk, .one .junk, .one .junk, .one .junk, .one .junk, .one .junk, .one .junk, .one .junk, .one .junk, .one .junk, .one .junk, .one .junk, .one .junk, .one .junk, .one .junk, .one .junk, .one .junk, .one .junk, .one .junk, .one .junk, .one .junk, .one .junk, .one .junk, .one .junk, .one .junk, .one .junk, .one .junk, .one .junk, .one .junk, .one .junk, .one .junk, .one .junk, .one .junk, .one .junk, .one .junk, .one .junk, .one .junk, .one .junk, .one .junk, .one .junk, .one .junk, .one .junk, .one .junk, .one .junk, .one .junk, .one .junk, .one .junk, .one .junk, .one .junk, .one .junk, .one .junk, .one .junk, .one .junk, .one .junk, .one .junk, .one .junk, .one .junk, .one .junk, .one .junk, .one .junk, .one .junk, .one .junk, .one .junk, .one .junk, .one .junk, .one .junk, .one .junk, .one .junk, .one .junk, .one .junk, .one .junk, .one .junk, .one .junk, .one .junk], [(50, .cells [.s false 980 0 (none)]), (18, .cells [.v false (.int .i64 u.2.2.1), .v false (.int .i64 u.2.2.2.1)]), (17, .dead), (1, .cells [.v false (Value.slice none (0 : Nat) (0 : Nat))]), (0, .cells [.d false false (.prod (.int .i64) (.list (.prod (.int .i64) (.int .i64)))) u.2.2.2.2]), (980, .row true false false 56 (.prod (.int .i64) (.list (.prod (.int .i64) (.int .i64)))) v.2)], 1056⟩
noncomputable def xs0_step (u : xs0_U) (v : ctb0_U) : Tr (ctb0_U ⊕ (Nat × ctb0_U)) :=
  match u, v with
  | (q0, q1, q3, q4, q5), (q2, q6) => .br (decide (q2 ≤ IntKind.wrap .i64 (q4 + q0))) (.br (xs1_cond (q0, q1, q2, q5, (↑(List.length q5) : Int), q3, q4, q5, q6) ((0 : Int), [])) (.br (Nat.beq (Prod.fst (xs1_g (q0, q1, q2, q5, (↑(List.length q5) : Int), q3, q4, q5, q6) ((0 : Int), []))) (0 : Nat)) (.br (decide (List.length (Prod.snd (Prod.snd (xs1_g (q0, q1, q2, q5, (↑(List.length q5) : Int), q3, q4, q5, q6) ((0 : Int), [])))) ≤ (10000 : Nat))) (.br (decide ((↑(List.length (nmL (Prod.snd (Prod.snd (xs1_g (q0, q1, q2, q5, (↑(List.length q5) : Int), q3, q4, q5, q6) ((0 : Int), [])))))) : Int) > (0 : Int))) (.br (decide ((List.length q6 + (1 : Nat)) * (32 : Nat) ≤ maxNew) && decide (List.length q6 + (1 : Nat) ≤ maxLen)) (.ret (.inl (IntKind.wrap .i64 (q2 + (1 : Int)), q6 ++ [(q2, nmL (Prod.snd (Prod.snd (xs1_g (q0, q1, q2, q5, (↑(List.length q5) : Int), q3, q4, q5, q6) ((0 : Int), [])))))]))) (.bad 71)) (.ret (.inl (IntKind.wrap .i64 (q2 + (1 : Int)), q6)))) (.bad 900)) (.bad 902)) (.bad 901)) (.ret (.inr (0, (q2, q6))))
set_option maxRecDepth 100000 in
set_option maxHeartbeats 4000000 in
theorem xs0_step_eq : ∀ (u : xs0_U) (v : ctb0_U), (evalC Try.prog (evalB Try.prog rfA_S69 (opens []) rfB_L52 7).1 (evalB Try.prog rfA_S69 (opens []) rfB_L52 7).2 (opens []) (rfB_L52 13) 100000 (0 :: [0, 1, 0, 1, 1, 1, 1, 1, 1]) (loopOf (bodyOf Try.prog 13) [1, 1, 1, 1, 1, 1, 0, 1, 0]) (xs0_St u v) []).bind (finF [0, 3, 6, 8, 11, 12, 13, 14, 15, 16, 17, 18, 19, 20, 21, 22, 23, 24, 25, 26, 27, 28, 29, 30, 31, 32, 33, 34, 35, 36, 37, 38, 39, 40, 41, 42, 43, 44, 45, 46, 47, 48, 49, 50, 51, 52, 53, 54, 55, 56, 57, 58, 59, 60, 61, 62, 63, 64, 65, 66, 67, 68, 69, 70, 71, 72, 73, 74, 75, 76, 77, 78, 79, 80, 81, 82, 83, 84, 85, 86, 87, 88, 89, 90, 91, 92, 93, 94, 95, 96, 97, 98, 99, 100, 101, 102, 103, 104, 105, 106, 107, 108, 109, 110, 111, 112, 113, 114, 115, 116, 117, 118, 119, 120, 121, 122, 123, 124, 125, 126, 127, 128, 129, 130, 131] [⟨980, none, 50, 0, 56, (.prod (.int .i64) (.list (.prod (.int .i64) (.int .i64))))⟩] [50, 18, 17, 1, 0, 980] [17, 2082] 1056) = (xs0_step u v).bind (outA (xs0_St u) [.exit 0]) := by
  rintro ⟨q0, q1, q3, q4, q5⟩ ⟨q2, q6⟩
  kernel_rfl
noncomputable def xs0_rd (b : Bool) (o1 : Option AV) (o2 : Option AV) (o4 : Option AV) (o5 : Option AV) (o7 : Option AV) (o9 : Option AV) (o10 : Option AV) (own : Own) : Option (xs0_U × ctb0_U) := zrT b <| zrO o1 fun za1 => zrA1 za1 fun zc2 => zrI .i64 zc2 fun q0 => zrO o2 fun za3 => zrA1 za3 fun zc4 => zrP 0 0 zc4 <| zrO o4 fun za5 => zrA1 za5 fun zc6 => zrP 1 0 zc6 <| zrO o5 fun za7 => zrA1 za7 fun zc8 => zrI .i64 zc8 fun q1 => zrO o7 fun za9 => zrA1 za9 fun zc10 => zrP 18 0 zc10 <| zrO o9 fun za11 => zrA1 za11 fun zc12 => zrP 50 0 zc12 <| zrO o10 fun za13 => zrA1 za13 fun zc14 => zrI .i64 zc14 fun q2 => zrL own fun zq15 zw16 => zrKey 50 zq15 fun zk17 => zrC zk17 fun zl18 => zrL zl18 fun zc19 zr20 => zrSl 980 0 (none) zc19 <| zrN zr20 <| zrL zw16 fun zq21 zw22 => zrKey 18 zq21 fun zk23 => zrC zk23 fun zl24 => zrL zl24 fun zc25 zr26 => zrI .i64 zc25 fun q3 => zrL zr26 fun zc27 zr28 => zrI .i64 zc27 fun q4 => zrN zr28 <| zrL zw22 fun zq29 zw30 => zrKey 17 zq29 fun zk31 => zrX zk31 <| zrL zw30 fun zq32 zw33 => zrKey 1 zq32 fun zk34 => zrC zk34 fun zl35 => zrL zl35 fun zc36 zr37 => zrNil zc36 <| zrN zr37 <| zrL zw33 fun zq38 zw39 => zrKey 0 zq38 fun zk40 => zrC zk40 fun zl41 => zrL zl41 fun zc42 zr43 => zrD (.prod (.int .i64) (.list (.prod (.int .i64) (.int .i64)))) zc42 fun q5 => zrN zr43 <| zrL zw39 fun zq44 zw45 => zrKey 980 zq44 fun zk46 => zrR true 56 (.prod (.int .i64) (.list (.prod (.int .i64) (.int .i64)))) zk46 fun q6 => zrN zw45 <| some ((q0, q1, q3, q4, q5), (q2, q6))
noncomputable def xs0_can (st : Stt) : Stt := canA [0, 3, 6, 8, 11, 12, 13, 14, 15, 16, 17, 18, 19, 20, 21, 22, 23, 24, 25, 26, 27, 28, 29, 30, 31, 32, 33, 34, 35, 36, 37, 38, 39, 40, 41, 42, 43, 44, 45, 46, 47, 48, 49, 50, 51, 52, 53, 54, 55, 56, 57, 58, 59, 60, 61, 62, 63, 64, 65, 66, 67, 68, 69, 70, 71, 72, 73, 74, 75, 76, 77, 78, 79, 80, 81, 82, 83, 84, 85, 86, 87, 88, 89, 90, 91, 92, 93, 94, 95, 96, 97, 98, 99, 100, 101, 102, 103, 104, 105, 106, 107, 108, 109, 110, 111, 112, 113, 114, 115, 116, 117, 118, 119, 120, 121, 122, 123, 124, 125, 126, 127, 128, 129, 130, 131] [⟨980, none, 50, 0, 56, (.prod (.int .i64) (.list (.prod (.int .i64) (.int .i64))))⟩] [50, 18, 17, 1, 0, 980] [17, 2082] 1056 st
noncomputable def xs0_cok (st : Stt) : Bool := canAok [0, 3, 6, 8, 11, 12, 13, 14, 15, 16, 17, 18, 19, 20, 21, 22, 23, 24, 25, 26, 27, 28, 29, 30, 31, 32, 33, 34, 35, 36, 37, 38, 39, 40, 41, 42, 43, 44, 45, 46, 47, 48, 49, 50, 51, 52, 53, 54, 55, 56, 57, 58, 59, 60, 61, 62, 63, 64, 65, 66, 67, 68, 69, 70, 71, 72, 73, 74, 75, 76, 77, 78, 79, 80, 81, 82, 83, 84, 85, 86, 87, 88, 89, 90, 91, 92, 93, 94, 95, 96, 97, 98, 99, 100, 101, 102, 103, 104, 105, 106, 107, 108, 109, 110, 111, 112, 113, 114, 115, 116, 117, 118, 119, 120, 121, 122, 123, 124, 125, 126, 127, 128, 129, 130, 131] [⟨980, none, 50, 0, 56, (.prod (.int .i64) (.list (.prod (.int .i64) (.int .i64))))⟩] [50, 18, 17, 1, 0, 980] [17, 2082] 1056 st
noncomputable def xs0_read (st : Stt) : Option (xs0_U × ctb0_U) := xs0_rd (xs0_cok st && (staysA [⟨980, none, 50, 0, 56, (.prod (.int .i64) (.list (.prod (.int .i64) (.int .i64))))⟩] [50, 18, 17, 1, 0, 980] st.own && juAll [0, 3, 6, 8, 11, 12, 13, 14, 15, 16, 17, 18, 19, 20, 21, 22, 23, 24, 25, 26, 27, 28, 29, 30, 31, 32, 33, 34, 35, 36, 37, 38, 39, 40, 41, 42, 43, 44, 45, 46, 47, 48, 49, 50, 51, 52, 53, 54, 55, 56, 57, 58, 59, 60, 61, 62, 63, 64, 65, 66, 67, 68, 69, 70, 71, 72, 73, 74, 75, 76, 77, 78, 79, 80, 81, 82, 83, 84, 85, 86, 87, 88, 89, 90, 91, 92, 93, 94, 95, 96, 97, 98, 99, 100, 101, 102, 103, 104, 105, 106, 107, 108, 109, 110, 111, 112, 113, 114, 115, 116, 117, 118, 119, 120, 121, 122, 123, 124, 125, 126, 127, 128, 129, 130, 131] (xs0_can st).tm 132)) (xs0_can st).tm[1]? (xs0_can st).tm[2]? (xs0_can st).tm[4]? (xs0_can st).tm[5]? (xs0_can st).tm[7]? (xs0_can st).tm[9]? (xs0_can st).tm[10]? (xs0_can st).own
set_option maxRecDepth 100000 in
set_option maxHeartbeats 4000000 in
theorem xs0_rd_ok {b : Bool} {tm : List AV} {own : Own} {u : xs0_U} {v : ctb0_U} (hj : b = true → juAll [0, 3, 6, 8, 11, 12, 13, 14, 15, 16, 17, 18, 19, 20, 21, 22, 23, 24, 25, 26, 27, 28, 29, 30, 31, 32, 33, 34, 35, 36, 37, 38, 39, 40, 41, 42, 43, 44, 45, 46, 47, 48, 49, 50, 51, 52, 53, 54, 55, 56, 57, 58, 59, 60, 61, 62, 63, 64, 65, 66, 67, 68, 69, 70, 71, 72, 73, 74, 75, 76, 77, 78, 79, 80, 81, 82, 83, 84, 85, 86, 87, 88, 89, 90, 91, 92, 93, 94, 95, 96, 97, 98, 99, 100, 101, 102, 103, 104, 105, 106, 107, 108, 109, 110, 111, 112, 113, 114, 115, 116, 117, 118, 119, 120, 121, 122, 123, 124, 125, 126, 127, 128, 129, 130, 131] tm 132 = true) (h : xs0_rd b tm[1]? tm[2]? tm[4]? tm[5]? tm[7]? tm[9]? tm[10]? own = some (u, v)) : b = true ∧ tm = (xs0_St u v).tm ∧ own = (xs0_St u v).own := by
  unfold xs0_rd at h
  obtain ⟨rfl, h0⟩ := zrT_some h
  obtain ⟨za1, e1, h1⟩ := zrO_some h0
  obtain ⟨zc2, rfl, h2⟩ := zrA1_some h1
  obtain ⟨q0, rfl, h3⟩ := zrI_some h2
  obtain ⟨za3, e2, h4⟩ := zrO_some h3
  obtain ⟨zc4, rfl, h5⟩ := zrA1_some h4
  obtain ⟨rfl, h6⟩ := zrP_some h5
  obtain ⟨za5, e4, h7⟩ := zrO_some h6
  obtain ⟨zc6, rfl, h8⟩ := zrA1_some h7
  obtain ⟨rfl, h9⟩ := zrP_some h8
  obtain ⟨za7, e5, h10⟩ := zrO_some h9
  obtain ⟨zc8, rfl, h11⟩ := zrA1_some h10
  obtain ⟨q1, rfl, h12⟩ := zrI_some h11
  obtain ⟨za9, e7, h13⟩ := zrO_some h12
  obtain ⟨zc10, rfl, h14⟩ := zrA1_some h13
  obtain ⟨rfl, h15⟩ := zrP_some h14
  obtain ⟨za11, e9, h16⟩ := zrO_some h15
  obtain ⟨zc12, rfl, h17⟩ := zrA1_some h16
  obtain ⟨rfl, h18⟩ := zrP_some h17
  obtain ⟨za13, e10, h19⟩ := zrO_some h18
  obtain ⟨zc14, rfl, h20⟩ := zrA1_some h19
  obtain ⟨q2, rfl, h21⟩ := zrI_some h20
  obtain ⟨zq15, zw16, rfl, h22⟩ := zrL_some h21
  obtain ⟨zk17, rfl, h23⟩ := zrKey_some h22
  obtain ⟨zl18, rfl, h24⟩ := zrC_some h23
  obtain ⟨zc19, zr20, rfl, h25⟩ := zrL_some h24
  obtain ⟨rfl, h26⟩ := zrSl_some h25
  obtain ⟨rfl, h27⟩ := zrN_some h26
  obtain ⟨zq21, zw22, rfl, h28⟩ := zrL_some h27
  obtain ⟨zk23, rfl, h29⟩ := zrKey_some h28
  obtain ⟨zl24, rfl, h30⟩ := zrC_some h29
  obtain ⟨zc25, zr26, rfl, h31⟩ := zrL_some h30
  obtain ⟨q3, rfl, h32⟩ := zrI_some h31
  obtain ⟨zc27, zr28, rfl, h33⟩ := zrL_some h32
  obtain ⟨q4, rfl, h34⟩ := zrI_some h33
  obtain ⟨rfl, h35⟩ := zrN_some h34
  obtain ⟨zq29, zw30, rfl, h36⟩ := zrL_some h35
  obtain ⟨zk31, rfl, h37⟩ := zrKey_some h36
  obtain ⟨rfl, h38⟩ := zrX_some h37
  obtain ⟨zq32, zw33, rfl, h39⟩ := zrL_some h38
  obtain ⟨zk34, rfl, h40⟩ := zrKey_some h39
  obtain ⟨zl35, rfl, h41⟩ := zrC_some h40
  obtain ⟨zc36, zr37, rfl, h42⟩ := zrL_some h41
  obtain ⟨rfl, h43⟩ := zrNil_some h42
  obtain ⟨rfl, h44⟩ := zrN_some h43
  obtain ⟨zq38, zw39, rfl, h45⟩ := zrL_some h44
  obtain ⟨zk40, rfl, h46⟩ := zrKey_some h45
  obtain ⟨zl41, rfl, h47⟩ := zrC_some h46
  obtain ⟨zc42, zr43, rfl, h48⟩ := zrL_some h47
  obtain ⟨q5, rfl, h49⟩ := zrD_some h48
  obtain ⟨rfl, h50⟩ := zrN_some h49
  obtain ⟨zq44, zw45, rfl, h51⟩ := zrL_some h50
  obtain ⟨zk46, rfl, h52⟩ := zrKey_some h51
  obtain ⟨q6, rfl, h53⟩ := zrR_some h52
  obtain ⟨rfl, h54⟩ := zrN_some h53
  have h := Option.some.inj h54
  have hu := congrArg Prod.fst h
  have hv := congrArg Prod.snd h
  dsimp only at hu hv
  subst hu
  subst hv
  exact ⟨rfl, (tm_fill (hj rfl) (Lv := [(1, .one (.v false (.int .i64 q0))), (2, .one (.p 0 0)), (4, .one (.p 1 0)), (5, .one (.v false (.int .i64 q1))), (7, .one (.p 18 0)), (9, .one (.p 50 0)), (10, .one (.v false (.int .i64 q2)))]) (by kernel_rfl) ⟨e1, e2, e4, e5, e7, e9, e10, trivial⟩).trans (by kernel_rfl), rfl⟩
theorem xs0_read_ok (st : Stt) (u : xs0_U) (v : ctb0_U) (h : xs0_read st = some (u, v)) : xs0_cok st = true ∧ staysA [⟨980, none, 50, 0, 56, (.prod (.int .i64) (.list (.prod (.int .i64) (.int .i64))))⟩] [50, 18, 17, 1, 0, 980] st.own = true ∧ xs0_can st = xs0_St u v := by
  obtain ⟨h1, h2, h3⟩ := xs0_rd_ok (fun hb => by rw [Bool.and_eq_true, Bool.and_eq_true] at hb; exact hb.2.2) h
  rw [Bool.and_eq_true, Bool.and_eq_true] at h1
  refine ⟨h1.1, h1.2.1, ?_⟩
  have e : xs0_can st = ⟨(xs0_can st).tm, (xs0_can st).own, 1056⟩ := by kernel_rfl
  rw [e, h2, h3]
  rfl
noncomputable def xs0_cond (u : xs0_U) (v : ctb0_U) : Bool := runC (xs0_step u) v
noncomputable def xs0_g (u : xs0_U) (v : ctb0_U) : Nat × ctb0_U := runG (xs0_step u) v
theorem xs0_hg : ∀ (u : xs0_U) (v : ctb0_U), xs0_cond u v = true → loopN (xs0_step u) ((fun u v => runF (xs0_step u) v) u v) v = some (xs0_g u v) := by
  exact fun u v h => run_hg h
noncomputable def xs0_m (st : Stt) : Option (Tr (Ex × Stt)) := sumM xs0_read xs0_cond xs0_St xs0_g [(0, .exit 0)] st
noncomputable def rfB_L53 : FuncId → Loops := addL 13 [0, 1, 0, 1, 1, 1, 1, 1, 1] xs0_m rfB_L52
set_option maxRecDepth 100000 in
set_option maxHeartbeats 4000000 in
theorem rfB_L53_ok : LoopsOK Try.prog rfB_L53 :=
  loop_sumF (body := (bodyOf Try.prog 13)) (c := (loopOf (bodyOf Try.prog 13) [1, 1, 1, 1, 1, 1, 0, 1, 0])) (kinds := [.exit 0]) (allow := [(0, .exit 0)]) (St := xs0_St) (step := xs0_step) (W := [0, 3, 6, 8, 11, 12, 13, 14, 15, 16, 17, 18, 19, 20, 21, 22, 23, 24, 25, 26, 27, 28, 29, 30, 31, 32, 33, 34, 35, 36, 37, 38, 39, 40, 41, 42, 43, 44, 45, 46, 47, 48, 49, 50, 51, 52, 53, 54, 55, 56, 57, 58, 59, 60, 61, 62, 63, 64, 65, 66, 67, 68, 69, 70, 71, 72, 73, 74, 75, 76, 77, 78, 79, 80, 81, 82, 83, 84, 85, 86, 87, 88, 89, 90, 91, 92, 93, 94, 95, 96, 97, 98, 99, 100, 101, 102, 103, 104, 105, 106, 107, 108, 109, 110, 111, 112, 113, 114, 115, 116, 117, 118, 119, 120, 121, 122, 123, 124, 125, 126, 127, 128, 129, 130, 131]) (As := [⟨980, none, 50, 0, 56, (.prod (.int .i64) (.list (.prod (.int .i64) (.int .i64))))⟩]) (ks := [50, 18, 17, 1, 0, 980]) (dd := [17, 2082]) (nx := 1056) (n := 100000) (g := xs0_g) (cond := xs0_cond) (fuel := (fun u v => runF (xs0_step u) v)) (read := xs0_read) (by kernel_rfl) (rfA_S69_ok) (rfB_L52_ok) 7 ⟨Try.f13, by kernel_rfl, by kernel_rfl⟩ (by kernel_rfl) (by kernel_rfl) (by kernel_rfl) xs0_step_eq xs0_hg xs0_read_ok
theorem xs2_run {L l0 : Rl} {k : Int} (a b : Int) (c : Rg) (d e f g : Int) (h o : Rg) (hb : ∀ r ∈ L, -4096 ≤ r.1 ∧ r.1 < r.2 ∧ r.2 ≤ 4096) (k0 : 0 ≤ k) (k1 : k ≤ 64) (hn : l0.length + L.length ≤ 50000) : xs2_cond (k, a, b, c, d, e, L, (L.length : Int), f, g, h, o) (0, l0) = true ∧ xs2_g (k, a, b, c, d, e, L, (L.length : Int), f, g, h, o) (0, l0) = (0, ((L.length : Int), l0 ++ wpc k L)) := by
  have e1 : wpc k L = L.map fun q => (q.1 - k, q.2 + k) := by unfold wpc; rw [decide_eq_false (show ¬ k < 0 by omega)]; rfl
  rw [e1]
  have R1 := run_steps (step := xs2_step (k, a, b, c, d, e, L, (L.length : Int), f, g, h, o)) (St := fun j => ((j : Int), l0 ++ (L.take j).map fun q => (q.1 - k, q.2 + k))) (n := L.length) (t := (0, ((L.length : Int), l0 ++ L.map fun q => (q.1 - k, q.2 + k)))) (by
    simp only [xs2_step, Tr.val, Int.lt_irrefl, decide_false, cond_false, List.take_length]) L.length 0 (Nat.zero_add _) (fun j _ hj => by
    have hr := hb _ (List.getElem_mem hj)
    have w1 : IntKind.wrap .i64 (L[j].1 - k) = L[j].1 - k := wid (by omega) (by omega)
    have w2 : IntKind.wrap .i64 (L[j].2 + k) = L[j].2 + k := wid (by omega) (by omega)
    have hl : (l0 ++ (L.take j).map fun q => (q.1 - k, q.2 + k)).length = l0.length + j := by rw [List.length_append, List.length_map, List.length_take]; omega
    obtain ⟨r1, r2⟩ := room16 (n := l0.length + j + 1) (by omega)
    have et : (L.take (j + 1)).map (fun q => (q.1 - k, q.2 + k)) = (L.take j).map (fun q => (q.1 - k, q.2 + k)) ++ [(L[j].1 - k, L[j].2 + k)] := by rw [List.take_succ_eq_append_getElem hj, List.map_append]; rfl
    rw [et, ← List.append_assoc]
    simp only [xs2_step, Tr.val, lt_t hj, nn_t, el_r hj, hl, r1, r2, w1, w2, wi1 hj (show (L.length : Int) ≤ 9223372036854775806 by omega), Bool.and_self, cond_true])
  have e0 : l0 ++ (L.take 0).map (fun q => (q.1 - k, q.2 + k)) = l0 := by simp
  simp only [e0] at R1
  exact R1
theorem wdS_eq (k y z : Int) : wdS k (z - y) = bif (bif decide (z < y - k) then true else decide (z > y + k)) then -1 else k := by
  unfold wdS
  rw [show decide (z - y < -k) = decide (z < y - k) from decide_eq_decide.2 (by omega), show decide (k < z - y) = decide (z > y + k) from decide_eq_decide.2 (by omega)]
set_option maxHeartbeats 1000000 in
theorem xs1_run {R : Rg} {k y : Int} (a b c : Int) (o : Rg) (h : valG R) (ht : totR R ≤ 10000) (k0 : 0 ≤ k) (k1 : k ≤ 64) (hy : -5000 ≤ y ∧ y ≤ 5000) : xs1_cond (k, a, y, R, (R.length : Int), b, c, R, o) (0, []) = true ∧ xs1_g (k, a, y, R, (R.length : Int), b, c, R, o) (0, []) = (0, ((R.length : Int), wdL (wdS k) R y)) := by
  have hn := ng_len h (by omega)
  have w1 : IntKind.wrap .i64 (y - k) = y - k := wid (by omega) (by omega)
  have w2 : IntKind.wrap .i64 (y + k) = y + k := wid (by omega) (by omega)
  have R1 := run_steps (step := xs1_step (k, a, y, R, (R.length : Int), b, c, R, o)) (St := fun j => ((j : Int), wdL (wdS k) (R.take j) y)) (n := R.length) (t := (0, ((R.length : Int), wdL (wdS k) R y))) (by
    simp only [xs1_step, Tr.val, Int.lt_irrefl, decide_false, cond_false, List.take_length]) R.length 0 (Nat.zero_add _) (fun j _ hj => by
    have g := Ng.rows h _ (List.getElem_mem hj)
    have l1 := wdL_len (wdS k) (R.take j) y
    have l2 := tot_get (R := R) hj
    rw [wdL_take hj, wdS_eq]
    obtain ⟨v1, v2⟩ := xs2_run (L := R[j].2) (l0 := wdL (wdS k) (R.take j) y) a y R (R.length : Int) (j : Int) b c R o (row_in g.2.2) k0 k1 (by omega)
    cases hc : (bif decide (R[j].1 < y - k) then true else decide (R[j].1 > y + k))
    · simp only [xs1_step, Tr.val, lt_t hj, nn_t, el_g hj, w1, w2, hc, v1, v2, Nat.beq, wi1 hj (show (R.length : Int) ≤ 9223372036854775806 by omega), Bool.and_self, cond_true, cond_false]
    · have e : wpc (-1) R[j].2 = [] := rfl
      simp only [xs1_step, Tr.val, lt_t hj, nn_t, el_g hj, w1, w2, hc, e, List.append_nil, wi1 hj (show (R.length : Int) ≤ 9223372036854775806 by omega), Bool.and_self, cond_true, cond_false])
  exact R1
theorem okR_in {L : Rl} (hb : ∀ q ∈ L, -5000 ≤ q.1 ∧ q.1 < q.2 ∧ q.2 ≤ 5000) : okR L = true := by
  unfold okR
  rw [List.all_eq_true]
  intro r hr
  have := hb r hr
  rw [decide_eq_true (show r.1 < r.2 by omega), decide_eq_true (show -1048576 ≤ r.1 by omega), decide_eq_true (show r.2 ≤ 1048576 by omega)]; rfl
set_option maxHeartbeats 1000000 in
theorem xs0_run {R : Rg} {k hx hy : Int} (e : Int) (h : valG R) (ht : totR R ≤ 10000) (k0 : 0 ≤ k) (k1 : k ≤ 64) {lo : Int} {N : Nat} (h1 : -4200 ≤ lo) (h2 : hy = lo + N - 1 - k) (h3 : hy ≤ 4096) : xs0_cond (k, e, hx, hy, R) (lo, []) = true ∧ xs0_g (k, e, hx, hy, R) (lo, []) = (0, (lo + N, rgN (fun i => nfR (memR (wdL (wdS k) R (lo + (i : Int))))) lo N)) := by
  have R1 := run_steps (step := xs0_step (k, e, hx, hy, R)) (St := fun j => (lo + (j : Int), rgN (fun i => nfR (memR (wdL (wdS k) R (lo + (i : Int))))) lo j)) (n := N) (t := (0, (lo + N, rgN (fun i => nfR (memR (wdL (wdS k) R (lo + (i : Int))))) lo N))) (by
    have w : IntKind.wrap .i64 (hy + k) = hy + k := wid (by omega) (by omega)
    have d : decide (lo + (N : Int) ≤ hy + k) = false := decide_eq_false (by omega)
    simp only [xs0_step, Tr.val, w, d, cond_false]) N 0 (Nat.zero_add _) (fun j _ hj => by
    have w : IntKind.wrap .i64 (hy + k) = hy + k := wid (by omega) (by omega)
    have d : decide (lo + (j : Int) ≤ hy + k) = true := decide_eq_true (by omega)
    have w2 : IntKind.wrap .i64 (lo + (j : Int) + (1 : Int)) = lo + ((j + 1 : Nat) : Int) := by rw [wid (by omega) (by omega)]; omega
    obtain ⟨v1, v2⟩ := xs1_run (y := lo + (j : Int)) e hx hy (rgN (fun i => nfR (memR (wdL (wdS k) R (lo + (i : Int))))) lo j) h ht k0 k1 (by omega)
    have hl := wdL_len (wdS k) R (lo + (j : Int))
    have c1 : decide ((wdL (wdS k) R (lo + (j : Int))).length ≤ 10000) = true := decide_eq_true (by omega)
    have en : nmL (wdL (wdS k) R (lo + (j : Int))) = nfR (memR (wdL (wdS k) R (lo + (j : Int)))) := by
      unfold nmL
      rw [okR_in (wdL_bd (k := k) h k1 fun d => (wdS_le k0 d).1)]; rfl
    have l2 := rgN_len (fun i => nfR (memR (wdL (wdS k) R (lo + (i : Int))))) lo j
    show _ = some (Sum.inl (lo + ((j + 1 : Nat) : Int), rgN (fun i => nfR (memR (wdL (wdS k) R (lo + (i : Int))))) lo j ++ emit (lo + (j : Int)) (nfR (memR (wdL (wdS k) R (lo + (j : Int)))))))
    generalize rgN (fun i => nfR (memR (wdL (wdS k) R (lo + (i : Int))))) lo j = A at *
    obtain ⟨r1, r2⟩ := room32 (n := A.length + 1) (by omega)
    unfold emit
    rw [← len_pos]
    generalize hF : nfR (memR (wdL (wdS k) R (lo + (j : Int)))) = F at *
    cases hp : decide ((F.length : Int) > (0 : Int))
    · simp only [xs0_step, Tr.val, w, d, w2, v1, v2, c1, en, hp, Nat.beq, List.append_nil, cond_true, cond_false]
    · simp only [xs0_step, Tr.val, w, d, w2, v1, v2, c1, en, hp, r1, r2, Nat.beq, Bool.and_self, cond_true, cond_false])
  have e0 : lo + ((0 : Nat) : Int) = lo := by omega
  simp only [e0] at R1
  exact R1
theorem chk_chainxs {K : Rg} {k : Int} (h : valG K) (hp : 0 < K.length) : (bif bif bif decide (loX K - k < (-4096 : Int)) then true else decide (loY K - k < (-4096 : Int)) then true else decide (hiX K + k ≥ (4096 : Int)) then true else decide (hiY K + k ≥ (4096 : Int))) = !fitB K k := by
  have e : fitB K k = decide (¬ (min (loX K) (loY K) - k < -4096 ∨ max (hiX K) (hiY K) + k ≥ 4096)) := by
    rw [Bool.eq_iff_iff, fitB_iff, fits_iff h hp, decide_eq_true_eq]
  rw [e, Bool.eq_iff_iff]
  simp only [Bool.cond_eq_ite, Bool.not_eq_true', decide_eq_false_iff_not, Decidable.not_not]
  constructor
  · intro g
    by_cases a1 : loX K - k < -4096
    · omega
    · rw [decide_eq_false a1] at g
      by_cases a2 : loY K - k < -4096
      · omega
      · rw [decide_eq_false a2] at g
        by_cases a3 : hiX K + k ≥ 4096
        · omega
        · rw [decide_eq_false a3] at g
          have : hiY K + k ≥ 4096 := by simpa using g
          omega
  · intro g
    by_cases a1 : loX K - k < -4096
    · simp [a1]
    · by_cases a2 : loY K - k < -4096
      · simp [a2]
      · by_cases a3 : hiX K + k ≥ 4096
        · simp [a3]
        · have a4 : hiY K + k ≥ 4096 := by omega
          simp [a4]
set_option maxRecDepth 100000 in
theorem xsc_tree (R : (Ty.list (.prod (.int .i64) (.list (.prod (.int .i64) (.int .i64))))).den) (k : Int) : evalF Try.prog rfA_S69 (opens []) rfB_L53 9 13 [.ag [.d false false (.prod (.int .i64) (.list (.prod (.int .i64) (.int .i64)))) R], .one (.v false (.int .i64 k))] = .br (((szG R) && (bif bif !valGB R then true else !bif decide (k ≥ (0 : Int)) then decide (k ≤ (64 : Int)) else false then true else ((szG R) && (bif !boxB R then true else (bif bif bif bif decide (IntKind.wrap .i64 (bLX R - k) < (-4096 : Int)) then true else decide (IntKind.wrap .i64 (bLY R - k) < (-4096 : Int)) then true else decide (IntKind.wrap .i64 (bHX R + k) ≥ (4096 : Int)) then true else decide (IntKind.wrap .i64 (bHY R + k) ≥ (4096 : Int)) then true else ((xs0_cond (k, (0 : Int), bHX R, bHY R, R) (IntKind.wrap .i64 (bLY R - k), [])) && (Nat.beq (Prod.fst (xs0_g (k, (0 : Int), bHX R, bHY R, R) (IntKind.wrap .i64 (bLY R - k), []))) (0 : Nat))))))))) (.ret (.tup [(true, [.d false false (.prod (.int .i64) (.list (.prod (.int .i64) (.int .i64)))) (bif bif !valGB R then true else !bif decide (k ≥ (0 : Int)) then decide (k ≤ (64 : Int)) else false then [] else bif !boxB R then [] else bif bif bif bif decide (IntKind.wrap .i64 (bLX R - k) < (-4096 : Int)) then true else decide (IntKind.wrap .i64 (bLY R - k) < (-4096 : Int)) then true else decide (IntKind.wrap .i64 (bHX R + k) ≥ (4096 : Int)) then true else decide (IntKind.wrap .i64 (bHY R + k) ≥ (4096 : Int)) then [] else Prod.snd (Prod.snd (xs0_g (k, (0 : Int), bHX R, bHY R, R) (IntKind.wrap .i64 (bLY R - k), []))))]), (false, [.v false (.int .i64 (bif bif !valGB R then true else !bif decide (k ≥ (0 : Int)) then decide (k ≤ (64 : Int)) else false then (1 : Int) else bif !boxB R then (0 : Int) else bif bif bif bif decide (IntKind.wrap .i64 (bLX R - k) < (-4096 : Int)) then true else decide (IntKind.wrap .i64 (bLY R - k) < (-4096 : Int)) then true else decide (IntKind.wrap .i64 (bHX R + k) ≥ (4096 : Int)) then true else decide (IntKind.wrap .i64 (bHY R + k) ≥ (4096 : Int)) then (8 : Int) else (0 : Int)))])])) (.bad 116) := by kernel_rfl
theorem xsc_val (R : (Ty.list (.prod (.int .i64) (.list (.prod (.int .i64) (.int .i64))))).den) (k : Int) (hc : (szG R && decide (cntV R ≤ 9000)) = true) : (.br (((szG R) && (bif bif !valGB R then true else !bif decide (k ≥ (0 : Int)) then decide (k ≤ (64 : Int)) else false then true else ((szG R) && (bif !boxB R then true else (bif bif bif bif decide (IntKind.wrap .i64 (bLX R - k) < (-4096 : Int)) then true else decide (IntKind.wrap .i64 (bLY R - k) < (-4096 : Int)) then true else decide (IntKind.wrap .i64 (bHX R + k) ≥ (4096 : Int)) then true else decide (IntKind.wrap .i64 (bHY R + k) ≥ (4096 : Int)) then true else ((xs0_cond (k, (0 : Int), bHX R, bHY R, R) (IntKind.wrap .i64 (bLY R - k), [])) && (Nat.beq (Prod.fst (xs0_g (k, (0 : Int), bHX R, bHY R, R) (IntKind.wrap .i64 (bLY R - k), []))) (0 : Nat))))))))) (.ret (.tup [(true, [.d false false (.prod (.int .i64) (.list (.prod (.int .i64) (.int .i64)))) (bif bif !valGB R then true else !bif decide (k ≥ (0 : Int)) then decide (k ≤ (64 : Int)) else false then [] else bif !boxB R then [] else bif bif bif bif decide (IntKind.wrap .i64 (bLX R - k) < (-4096 : Int)) then true else decide (IntKind.wrap .i64 (bLY R - k) < (-4096 : Int)) then true else decide (IntKind.wrap .i64 (bHX R + k) ≥ (4096 : Int)) then true else decide (IntKind.wrap .i64 (bHY R + k) ≥ (4096 : Int)) then [] else Prod.snd (Prod.snd (xs0_g (k, (0 : Int), bHX R, bHY R, R) (IntKind.wrap .i64 (bLY R - k), []))))]), (false, [.v false (.int .i64 (bif bif !valGB R then true else !bif decide (k ≥ (0 : Int)) then decide (k ≤ (64 : Int)) else false then (1 : Int) else bif !boxB R then (0 : Int) else bif bif bif bif decide (IntKind.wrap .i64 (bLX R - k) < (-4096 : Int)) then true else decide (IntKind.wrap .i64 (bLY R - k) < (-4096 : Int)) then true else decide (IntKind.wrap .i64 (bHX R + k) ≥ (4096 : Int)) then true else decide (IntKind.wrap .i64 (bHY R + k) ≥ (4096 : Int)) then (8 : Int) else (0 : Int)))])])) (.bad 116) : Tr AV).val = some (.tup [(true, [.d false false (.prod (.int .i64) (.list (.prod (.int .i64) (.int .i64)))) (dlG R k)]), (false, [.v false (.int .i64 (chkE R k))])]) := by
  obtain ⟨K, rfl⟩ : ∃ K : Rg, K = R := ⟨R, rfl⟩
  rw [Bool.and_eq_true] at hc
  have hs : szG K = true := hc.1
  have hcn : cntV K ≤ 9000 := of_decide_eq_true hc.2
  have er : (bif decide (k ≥ (0 : Int)) then decide (k ≤ (64 : Int)) else false) = rchB k := by
    unfold rchB
    show (bif decide (0 ≤ k) then decide (k ≤ 64) else false) = _
    cases decide (0 ≤ k) <;> rfl
  unfold dlG chkE
  show cond _ _ _ = _
  rw [er]
  cases hv : valGB K
  · simp only [hs, Bool.not_false, Bool.and_false, Bool.false_and, Bool.and_self, cond_true, cond_false, Tr.val]
  · have h := valGB_iff.1 hv
    cases hr : rchB k
    · simp only [hs, Bool.not_false, Bool.not_true, Bool.false_and, Bool.and_self, cond_true, cond_false, Tr.val]
    · obtain ⟨k0, k1⟩ := rch_iff.1 hr
      by_cases hp : 0 < K.length
      · have bb : boxB K = true := by unfold boxB; rw [hv, decide_eq_true hp]; rfl
        have e1 : bLX K = loX K := by unfold bLX; rw [bb]; rfl
        have e2 : bLY K = loY K := by unfold bLY; rw [bb]; rfl
        have e3 : bHX K = hiX K := by unfold bHX; rw [bb]; rfl
        have e4 : bHY K = hiY K := by unfold bHY; rw [bb]; rfl
        obtain ⟨b1, ⟨y1, b2⟩, ⟨y2, b3⟩, ⟨x1, b4⟩, ⟨x2, b5⟩⟩ := box_ok h hp
        have m2 := mem_in h b2
        have m3 := mem_in h b3
        have m4 := mem_in h b4
        have m5 := mem_in h b5
        have w1 : IntKind.wrap .i64 (loX K - k) = loX K - k := wid (by omega) (by omega)
        have w2 : IntKind.wrap .i64 (loY K - k) = loY K - k := wid (by omega) (by omega)
        have w3 : IntKind.wrap .i64 (hiX K + k) = hiX K + k := wid (by omega) (by omega)
        have w4 : IntKind.wrap .i64 (hiY K + k) = hiY K + k := wid (by omega) (by omega)
        have ch := chk_chainxs (k := k) h hp
        cases hf : fitB K k
        · rw [hf] at ch
          simp only [hs, bb, e1, e2, e3, e4, w1, w2, w3, w4, ch, Bool.not_true, Bool.not_false, Bool.and_false, Bool.and_self, cond_true, cond_false, Tr.val]
        · rw [hf] at ch
          have ht : totR K ≤ 10000 := by
            have := tot_cnt h
            have e : cntV K = cntG K := by unfold cntV; rw [hv]; rfl
            omega
          have hl4 := (b1 _ _ b4)
          obtain ⟨N, hN⟩ : ∃ N : Nat, (N : Int) = hiY K + k - (loY K - k) + 1 := ⟨(hiY K + k - (loY K - k) + 1).toNat, by omega⟩
          obtain ⟨v1, v2⟩ := xs0_run (hx := hiX K) (hy := hiY K) 0 h ht k0 k1 (lo := loY K - k) (N := N) (by omega) (by omega) (by omega)
          have eq := wdG_eq (w := wdS k) (Q := Sq true K k) (fun x y => rs_sq k0 x y) h hp k1 (fitB_iff.1 hf) (wdS_le k0) hN
          have eg : sqG true K k = nfG (Sq true K k) := rfl
          simp only [hs, bb, e1, e2, e3, e4, w1, w2, w3, w4, ch, v1, v2, eg, eq, Nat.beq, Bool.not_true, Bool.and_self, cond_true, cond_false, Tr.val]
      · have bb : boxB K = false := by unfold boxB; rw [decide_eq_false hp, Bool.and_false]
        have e : K = [] := List.length_eq_zero_iff.1 (by omega)
        subst e
        have hf : fitB [] k = true := fitB_iff.2 fun x y hm => by cases hm
        have eg : sqG true [] k = [] := sq_none true k0
        simp only [hs, bb, hf, eg, Bool.not_true, Bool.not_false, Bool.and_self, cond_true, cond_false, Tr.val]
noncomputable def xsc_g : List AV → Option (Tr AV)
  | [.ag [.d _ _ (.prod (.int .i64) (.list (.prod (.int .i64) (.int .i64)))) R], .one (.v _ (.int .i64 k))] => some (.br (szG R && decide (cntV R ≤ 9000)) (.ret (.tup [(true, [.d false false (.prod (.int .i64) (.list (.prod (.int .i64) (.int .i64)))) (dlG R k)]), (false, [.v false (.int .i64 (chkE R k))])])) (.bad 900))
  | _ => none
set_option maxHeartbeats 4000000 in
theorem xsc_ok : FunOK Try.prog 13 xsc_g := by
  refine fun_ok (by kernel_rfl) (rfA_S69_ok) (rfB_L53_ok) 9 (On := (opens [])) (fun args t h => ?_)
  unfold xsc_g at h
  split at h
  · rename_i _ _ R _ k
    simp only [Option.some.injEq] at h
    subst h
    refine ⟨[.ag [.d false false (.prod (.int .i64) (.list (.prod (.int .i64) (.int .i64)))) R], .one (.v false (.int .i64 k))], rfl, fun fr w us h => h, fun r hr => ?_⟩
    obtain ⟨hc, hr⟩ := br_bad hr
    simp only [Tr.val, Option.some.injEq] at hr
    subst hr
    rw [xsc_tree]
    exact xsc_val R k hc
  · cases h
noncomputable def rfB_S54 : Sums := addS 13 xsc_g rfA_S69
theorem rfB_S54_ok : SumOK Try.prog rfB_S54 := addS_ok (xsc_ok) (rfA_S69_ok)
end Go.Proofs.Ytacgchandefjgaa
