/-
  Layer 6: the document's Norm; Grow; RunsChooses, RunsMoves.
-/
import Derived.Test.YtklagccjkbajiaaProg
import Derived.Test.YtklagccjkbajiaaFvX
import Derived.Test.YtklagccjkbajiaaFvZ
import Derived.Test.YtklagccjkbajiaaAut
import Derived.Test.YtklagccjkbajiaaRd
import Derived.Test.YtklagccjkbajiaaPl
import Derived.Test.YtklagccjkbajiaaScn
import Derived.Test.YtklagccjkbajiaaRunM
import Derived.Test.YtklagccjkbajiaaRunN
import Derived.Test.YtklagccjkbajiaaRunS
import Derived.Test.YtklagccjkbajiaaRuA
import Derived.Test.YtklagccjkbajiaaRuB
import Derived.Test.YtklagccjkbajiaaRuC
import Derived.Test.YtklagccjkbajiaaRuD
import Derived.Test.YtklagccjkbajiaaRuE
import Derived.Test.YtklagccjkbajiaaRuF
namespace Go.Proofs.Ytklagccjkbajiaa
open Go
abbrev rno_U : Type := (Ty.list (.prod (.int .i64) (.int .i64))).den
abbrev rno_V : Type := Int × Int
noncomputable def rno_St (u : rno_U) (v : rno_V) : Stt := ⟨[.one (.d false false (.prod (.int .i64) (.int .i64)) u), .one .junk, .one (.v false (Value.slice none (0 : Nat) (0 : Nat))), .one (.v false (.int .i64 v.1)), .one (.v false (.int .i64 v.2)), .one .junk, .one .junk, .one .junk, .one .junk, .one .junk, .one .junk, .one .junk, .one .junk, .one .junk, .one .junk, .one .junk, .one .junk, .one .junk, .one .junk, .one .junk, .one .junk, .one .junk, .one .junk, .one .junk, .one .junk, .one .junk, .one .junk, .one .junk, .one .junk, .one .junk, .one .junk, .one .junk, .one .junk, .one .junk, .one .junk, .one .junk, .one .junk, .one .junk, .one .junk, .one .junk, .one .junk, .one .junk], [], 1003⟩
noncomputable def rno_step (u : rno_U) (v : rno_V) : Tr (rno_V ⊕ (Nat × rno_V)) :=
  match u, v with
  | q0, (q1, q2) => .br (decide (q2 < (↑(List.length q0) : Int))) (.br (decide ((0 : Int) ≤ q2) && decide (q2 < (↑(List.length q0) : Int))) (.br (decide ((0 : Int) ≤ q2) && decide (q2 < (↑(List.length q0) : Int))) (.br ((bif decide (Prod.fst (el_ii q0 q2) < Prod.snd (el_ii q0 q2)) then ((decide ((0 : Int) ≤ q2) && decide (q2 < (↑(List.length q0) : Int))) && (bif !bif decide (Prod.fst (el_ii q0 q2) ≥ (-1048576 : Int)) then decide (Prod.fst (el_ii q0 q2) ≤ (1048576 : Int)) else false then true else (decide ((0 : Int) ≤ q2) && decide (q2 < (↑(List.length q0) : Int))))) else true)) (.br (bif decide (Prod.fst (el_ii q0 q2) < Prod.snd (el_ii q0 q2)) then bif !bif decide (Prod.fst (el_ii q0 q2) ≥ (-1048576 : Int)) then decide (Prod.fst (el_ii q0 q2) ≤ (1048576 : Int)) else false then true else !bif decide (Prod.snd (el_ii q0 q2) ≥ (-1048576 : Int)) then decide (Prod.snd (el_ii q0 q2) ≤ (1048576 : Int)) else false else false) (.ret (.inr (0, (8, q2)))) (.ret (.inl (q1, IntKind.wrap IntKind.i64 (q2 + (1 : Int)))))) (.bad 117)) (.bad 29)) (.bad 29)) (.ret (.inr (1, (q1, q2))))
set_option maxRecDepth 100000 in
set_option maxHeartbeats 4000000 in
theorem rno_step_eq : ∀ (u : rno_U) (v : rno_V), (evalC Try.prog (evalB Try.prog ruF_S57 (opens []) ruF_L56 7).1 (evalB Try.prog ruF_S57 (opens []) ruF_L56 7).2 (opens []) (ruF_L56 10) 100000 (0 :: [0, 1, 0, 1]) (loopOf (bodyOf Try.prog 10) [1, 0, 1, 0]) (rno_St u v) []).bind (finF [1, 5, 6, 7, 8, 9, 10, 11, 12, 13, 14, 15, 16, 17, 18, 19, 20, 21, 22, 23, 24, 25, 26, 27, 28, 29, 30, 31, 32, 33, 34, 35, 36, 37, 38, 39, 40, 41] [] [] [] 1003) = (rno_step u v).bind (outA (rno_St u) [.ret, .exit 0]) := by
  rintro q0 ⟨q1, q2⟩
  kernel_rfl
noncomputable def rno_rd (b : Bool) (o0 : Option AV) (o2 : Option AV) (o3 : Option AV) (o4 : Option AV) (own : Own) : Option (rno_U × rno_V) := zrT b <| zrO o0 fun za1 => zrA1 za1 fun zc2 => zrD (.prod (.int .i64) (.int .i64)) zc2 fun q0 => zrO o2 fun za3 => zrA1 za3 fun zc4 => zrNil zc4 <| zrO o3 fun za5 => zrA1 za5 fun zc6 => zrI .i64 zc6 fun q1 => zrO o4 fun za7 => zrA1 za7 fun zc8 => zrI .i64 zc8 fun q2 => zrN own <| some (q0, (q1, q2))
noncomputable def rno_can (st : Stt) : Stt := canA [1, 5, 6, 7, 8, 9, 10, 11, 12, 13, 14, 15, 16, 17, 18, 19, 20, 21, 22, 23, 24, 25, 26, 27, 28, 29, 30, 31, 32, 33, 34, 35, 36, 37, 38, 39, 40, 41] [] [] [] 1003 st
noncomputable def rno_cok (st : Stt) : Bool := canAok [1, 5, 6, 7, 8, 9, 10, 11, 12, 13, 14, 15, 16, 17, 18, 19, 20, 21, 22, 23, 24, 25, 26, 27, 28, 29, 30, 31, 32, 33, 34, 35, 36, 37, 38, 39, 40, 41] [] [] [] 1003 st
noncomputable def rno_read (st : Stt) : Option (rno_U × rno_V) := rno_rd (rno_cok st && (staysA [] [] st.own && juAll [1, 5, 6, 7, 8, 9, 10, 11, 12, 13, 14, 15, 16, 17, 18, 19, 20, 21, 22, 23, 24, 25, 26, 27, 28, 29, 30, 31, 32, 33, 34, 35, 36, 37, 38, 39, 40, 41] (rno_can st).tm 42)) (rno_can st).tm[0]? (rno_can st).tm[2]? (rno_can st).tm[3]? (rno_can st).tm[4]? (rno_can st).own
set_option maxRecDepth 100000 in
set_option maxHeartbeats 4000000 in
theorem rno_rd_ok {b : Bool} {tm : List AV} {own : Own} {u : rno_U} {v : rno_V} (hj : b = true → juAll [1, 5, 6, 7, 8, 9, 10, 11, 12, 13, 14, 15, 16, 17, 18, 19, 20, 21, 22, 23, 24, 25, 26, 27, 28, 29, 30, 31, 32, 33, 34, 35, 36, 37, 38, 39, 40, 41] tm 42 = true) (h : rno_rd b tm[0]? tm[2]? tm[3]? tm[4]? own = some (u, v)) : b = true ∧ tm = (rno_St u v).tm ∧ own = (rno_St u v).own := by
  unfold rno_rd at h
  obtain ⟨rfl, h0⟩ := zrT_some h
  obtain ⟨za1, e0, h1⟩ := zrO_some h0
  obtain ⟨zc2, rfl, h2⟩ := zrA1_some h1
  obtain ⟨q0, rfl, h3⟩ := zrD_some h2
  obtain ⟨za3, e2, h4⟩ := zrO_some h3
  obtain ⟨zc4, rfl, h5⟩ := zrA1_some h4
  obtain ⟨rfl, h6⟩ := zrNil_some h5
  obtain ⟨za5, e3, h7⟩ := zrO_some h6
  obtain ⟨zc6, rfl, h8⟩ := zrA1_some h7
  obtain ⟨q1, rfl, h9⟩ := zrI_some h8
  obtain ⟨za7, e4, h10⟩ := zrO_some h9
  obtain ⟨zc8, rfl, h11⟩ := zrA1_some h10
  obtain ⟨q2, rfl, h12⟩ := zrI_some h11
  obtain ⟨rfl, h13⟩ := zrN_some h12
  have h := Option.some.inj h13
  have hu := congrArg Prod.fst h
  have hv := congrArg Prod.snd h
  dsimp only at hu hv
  subst hu
  subst hv
  exact ⟨rfl, (tm_fill (hj rfl) (Lv := [(0, .one (.d false false (.prod (.int .i64) (.int .i64)) q0)), (2, .one (.v false (Value.slice none (0 : Nat) (0 : Nat)))), (3, .one (.v false (.int .i64 q1))), (4, .one (.v false (.int .i64 q2)))]) (by kernel_rfl) ⟨e0, e2, e3, e4, trivial⟩).trans (by kernel_rfl), rfl⟩
theorem rno_read_ok (st : Stt) (u : rno_U) (v : rno_V) (h : rno_read st = some (u, v)) : rno_cok st = true ∧ staysA [] [] st.own = true ∧ rno_can st = rno_St u v := by
  obtain ⟨h1, h2, h3⟩ := rno_rd_ok (fun hb => by rw [Bool.and_eq_true, Bool.and_eq_true] at hb; exact hb.2.2) h
  rw [Bool.and_eq_true, Bool.and_eq_true] at h1
  refine ⟨h1.1, h1.2.1, ?_⟩
  have e : rno_can st = ⟨(rno_can st).tm, (rno_can st).own, 1003⟩ := by kernel_rfl
  rw [e, h2, h3]
  rfl
noncomputable def rno_cond (u : rno_U) (v : rno_V) : Bool := runC (rno_step u) v
noncomputable def rno_g (u : rno_U) (v : rno_V) : Nat × rno_V := runG (rno_step u) v
theorem rno_hg : ∀ (u : rno_U) (v : rno_V), rno_cond u v = true → loopN (rno_step u) ((fun u v => runF (rno_step u) v) u v) v = some (rno_g u v) := by
  exact fun u v h => run_hg h
noncomputable def rno_m (st : Stt) : Option (Tr (Ex × Stt)) := sumM rno_read rno_cond rno_St rno_g [(0, .ret), (1, .exit 0)] st
noncomputable def ruG_L51 : FuncId → Loops := addL 10 [0, 1, 0, 1] rno_m ruF_L56
set_option maxRecDepth 100000 in
set_option maxHeartbeats 4000000 in
theorem ruG_L51_ok : LoopsOK Try.prog ruG_L51 :=
  loop_sumF (body := (bodyOf Try.prog 10)) (c := (loopOf (bodyOf Try.prog 10) [1, 0, 1, 0])) (kinds := [.ret, .exit 0]) (allow := [(0, .ret), (1, .exit 0)]) (St := rno_St) (step := rno_step) (W := [1, 5, 6, 7, 8, 9, 10, 11, 12, 13, 14, 15, 16, 17, 18, 19, 20, 21, 22, 23, 24, 25, 26, 27, 28, 29, 30, 31, 32, 33, 34, 35, 36, 37, 38, 39, 40, 41]) (As := []) (ks := []) (dd := []) (nx := 1003) (n := 100000) (g := rno_g) (cond := rno_cond) (fuel := (fun u v => runF (rno_step u) v)) (read := rno_read) (by kernel_rfl) (ruF_S57_ok) (ruF_L56_ok) 7 ⟨Try.f10, by kernel_rfl, by kernel_rfl⟩ (by kernel_rfl) (by kernel_rfl) (by kernel_rfl) rno_step_eq rno_hg rno_read_ok
def okR (L : Rl) : Bool := L.all fun r => bif decide (r.1 < r.2) then (decide (-1048576 ≤ r.1) && decide (r.2 ≤ 1048576)) else true
noncomputable def nmL (L : Rl) : Rl := bif okR L then nfR (memR L) else []
def nmE (L : Rl) : Int := bif okR L then 0 else 8
noncomputable def gwL (L : Rl) (k : Int) : Rl := bif valB L && (decide (0 ≤ k) && decide (k ≤ 65536)) then nmL (mvR L (-k) k) else []
noncomputable def gwE (L : Rl) (k : Int) : Int := bif valB L && (decide (0 ≤ k) && decide (k ≤ 65536)) then nmE (mvR L (-k) k) else 1
theorem rno_run {L : Rl} (hn : L.length ≤ 10000) : rno_cond L (0, 0) = true ∧ ((okR L = true ∧ rno_g L (0, 0) = (1, (0, (L.length : Int)))) ∨ (okR L = false ∧ ∃ j : Nat, rno_g L (0, 0) = (0, (8, (j : Int))))) := by
  obtain ⟨h1, h2⟩ := run_all (step := rno_step L) (St := fun i => (0, (i : Int))) (Lv := fun i => (0, (8, (i : Int)))) (t := (1, (0, (L.length : Int)))) (l := L) (p := fun r => bif decide (r.1 < r.2) then (decide (-1048576 ≤ r.1) && decide (r.2 ≤ 1048576)) else true) (fun i hi => by
    simp only [rno_step, Tr.val, lt_t hi, nn_t, el_r hi, wi1 hi (show (L.length : Int) ≤ 9223372036854775806 by omega), Bool.and_self, Bool.cond_self, cond_true]
    have e : (bif decide (L[i].1 < L[i].2) then bif !bif decide (L[i].1 ≥ (-1048576 : Int)) then decide (L[i].1 ≤ (1048576 : Int)) else false then true else !bif decide (L[i].2 ≥ (-1048576 : Int)) then decide (L[i].2 ≤ (1048576 : Int)) else false else false) = !(bif decide (L[i].1 < L[i].2) then (decide (-1048576 ≤ L[i].1) && decide (L[i].2 ≤ 1048576)) else true) := by
      by_cases h : L[i].1 < L[i].2
      · rw [decide_eq_true h, Bool.eq_iff_iff]
        simp [Bool.cond_eq_ite]
        omega
      · rw [decide_eq_false h]; rfl
    rw [e]
    cases (bif decide (L[i].1 < L[i].2) then (decide (-1048576 ≤ L[i].1) && decide (L[i].2 ≤ 1048576)) else true) <;> rfl) (by simp only [rno_step, Tr.val, Int.lt_irrefl, decide_false, cond_false])
  refine ⟨h1, ?_⟩
  rcases h2 with ⟨h, h3⟩ | ⟨h, j, _, _, _, h4⟩
  · exact .inl ⟨h, h3⟩
  · exact .inr ⟨h, j, h4⟩
set_option maxRecDepth 100000 in
theorem rnoc_tree (L : (Ty.list (.prod (.int .i64) (.int .i64))).den) : evalF Try.prog ruF_S57 (opens []) ruG_L51 9 10 [.one (.d false false (.prod (.int .i64) (.int .i64)) L)] = .br (((rno_cond L ((0 : Int), (0 : Int))) && (bif Nat.beq (Prod.fst (rno_g L ((0 : Int), (0 : Int)))) (0 : Nat) then true else ((Nat.beq (Prod.fst (rno_g L ((0 : Int), (0 : Int)))) (1 : Nat)) && (decide (List.length L ≤ (10000 : Nat))))))) (.ret (.tup [(false, [.d false false (.prod (.int .i64) (.int .i64)) (bif Nat.beq (Prod.fst (rno_g L ((0 : Int), (0 : Int)))) (0 : Nat) then [] else nfR (memR L))]), (false, [.v false (.int .i64 (bif Nat.beq (Prod.fst (rno_g L ((0 : Int), (0 : Int)))) (0 : Nat) then Prod.fst (Prod.snd (rno_g L ((0 : Int), (0 : Int)))) else (0 : Int)))])])) (.bad 116) := by kernel_rfl
theorem rnoc_val (L : (Ty.list (.prod (.int .i64) (.int .i64))).den) (hc : (decide (L.length ≤ 10000)) = true) : (.br (((rno_cond L ((0 : Int), (0 : Int))) && (bif Nat.beq (Prod.fst (rno_g L ((0 : Int), (0 : Int)))) (0 : Nat) then true else ((Nat.beq (Prod.fst (rno_g L ((0 : Int), (0 : Int)))) (1 : Nat)) && (decide (List.length L ≤ (10000 : Nat))))))) (.ret (.tup [(false, [.d false false (.prod (.int .i64) (.int .i64)) (bif Nat.beq (Prod.fst (rno_g L ((0 : Int), (0 : Int)))) (0 : Nat) then [] else nfR (memR L))]), (false, [.v false (.int .i64 (bif Nat.beq (Prod.fst (rno_g L ((0 : Int), (0 : Int)))) (0 : Nat) then Prod.fst (Prod.snd (rno_g L ((0 : Int), (0 : Int)))) else (0 : Int)))])])) (.bad 116) : Tr AV).val = some (.tup [(false, [.d false false (.prod (.int .i64) (.int .i64)) (nmL L)]), (false, [.v false (.int .i64 (nmE L))])]) := by
  obtain ⟨K, rfl⟩ : ∃ K : Rl, K = L := ⟨L, rfl⟩
  have hn : K.length ≤ 10000 := of_decide_eq_true hc
  obtain ⟨v1, v2⟩ := rno_run hn
  unfold nmL nmE
  show cond _ _ _ = _
  rcases v2 with ⟨h, g⟩ | ⟨h, j, g⟩
  · simp only [hc, v1, g, h, Nat.beq, Bool.and_self, cond_true, cond_false, Tr.val]
  · simp only [hc, v1, g, h, Nat.beq, Bool.and_self, cond_true, cond_false, Tr.val]
noncomputable def rnoc_g : List AV → Option (Tr AV)
  | [.one (.d _ _ (.prod (.int .i64) (.int .i64)) L)] => some (.br (decide (L.length ≤ 10000)) (.ret (.tup [(false, [.d false false (.prod (.int .i64) (.int .i64)) (nmL L)]), (false, [.v false (.int .i64 (nmE L))])])) (.bad 900))
  | _ => none
set_option maxHeartbeats 4000000 in
theorem rnoc_ok : FunOK Try.prog 10 rnoc_g := by
  refine fun_ok (by kernel_rfl) (ruF_S57_ok) (ruG_L51_ok) 9 (On := (opens [])) (fun args t h => ?_)
  unfold rnoc_g at h
  split at h
  · rename_i _ _ L
    simp only [Option.some.injEq] at h
    subst h
    refine ⟨[.one (.d false false (.prod (.int .i64) (.int .i64)) L)], rfl, fun fr w us h => h, fun r hr => ?_⟩
    obtain ⟨hc, hr⟩ := br_bad hr
    simp only [Tr.val, Option.some.injEq] at hr
    subst hr
    rw [rnoc_tree]
    exact rnoc_val L hc
  · cases h
noncomputable def ruG_S52 : Sums := addS 10 rnoc_g ruF_S57
theorem ruG_S52_ok : SumOK Try.prog ruG_S52 := addS_ok (rnoc_ok) (ruF_S57_ok)
abbrev rgw_U : Type := (Ty.list (.prod (.int .i64) (.int .i64))).den × Int × Int
abbrev rgw_V : Type := Int × (Ty.list (.prod (.int .i64) (.int .i64))).den
noncomputable def rgw_St (u : rgw_U) (v : rgw_V) : Stt := ⟨[.one (.d false false (.prod (.int .i64) (.int .i64)) u.1), .one (.v false (.int .i64 u.2.1)), .one .junk, .one .junk, .one (.v false (Value.slice none (0 : Nat) (0 : Nat))), .one (.v false (.int .i64 u.2.2)), .one (.s false 980 0 (none)), .one (.v false (.int .i64 v.1)), .one .junk, .one .junk, .one .junk, .one .junk, .one .junk, .one .junk, .one .junk, .one .junk, .one .junk, .one .junk, .one .junk, .one .junk, .one .junk, .one .junk, .one .junk, .one .junk, .one .junk, .one .junk, .one .junk, .one .junk, .one .junk, .one .junk, .one .junk, .one .junk, .one .junk, .one .junk, .one .junk, .one .junk, .one .junk, .one .junk, .one .junk, .one .junk, .one .junk, .one .junk, .one .junk, .one .junk, .one .junk, .one .junk, .one .junk], [(980, .row true false false 38 (.prod (.int .i64) (.int .i64)) v.2)], 1015⟩
noncomputable def rgw_step (u : rgw_U) (v : rgw_V) : Tr (rgw_V ⊕ (Nat × rgw_V)) :=
  match u, v with
  | (q0, q1, _), (q3, q4) => .br (decide (q3 < (↑(List.length q0) : Int))) (.br (decide ((0 : Int) ≤ q3) && decide (q3 < (↑(List.length q0) : Int))) (.br (decide ((0 : Int) ≤ q3) && decide (q3 < (↑(List.length q0) : Int))) (.br (decide ((List.length q4 + (1 : Nat)) * (16 : Nat) ≤ maxNew) && decide (List.length q4 + (1 : Nat) ≤ maxLen)) (.ret (.inl (IntKind.wrap IntKind.i64 (q3 + (1 : Int)), q4 ++ [(IntKind.wrap IntKind.i64 (Prod.fst (el_ii q0 q3) - q1), IntKind.wrap IntKind.i64 (Prod.snd (el_ii q0 q3) + q1))]))) (.bad 71)) (.bad 29)) (.bad 29)) (.ret (.inr (0, (q3, q4))))
set_option maxRecDepth 100000 in
set_option maxHeartbeats 4000000 in
theorem rgw_step_eq : ∀ (u : rgw_U) (v : rgw_V), (evalC Try.prog (evalB Try.prog ruG_S52 (opens []) ruG_L51 7).1 (evalB Try.prog ruG_S52 (opens []) ruG_L51 7).2 (opens []) (ruG_L51 28) 100000 (0 :: [0, 1, 0, 1, 1, 1]) (loopOf (bodyOf Try.prog 28) [1, 1, 1, 0, 1, 0]) (rgw_St u v) []).bind (finF [2, 3, 8, 9, 10, 11, 12, 13, 14, 15, 16, 17, 18, 19, 20, 21, 22, 23, 24, 25, 26, 27, 28, 29, 30, 31, 32, 33, 34, 35, 36, 37, 38, 39, 40, 41, 42, 43, 44, 45, 46] [⟨980, some 6, 0, 0, 38, (.prod (.int .i64) (.int .i64))⟩] [980] [1036] 1015) = (rgw_step u v).bind (outA (rgw_St u) [.exit 0]) := by
  rintro ⟨q0, q1, q2⟩ ⟨q3, q4⟩
  kernel_rfl
noncomputable def rgw_rd (b : Bool) (o0 : Option AV) (o1 : Option AV) (o4 : Option AV) (o5 : Option AV) (o6 : Option AV) (o7 : Option AV) (own : Own) : Option (rgw_U × rgw_V) := zrT b <| zrO o0 fun za1 => zrA1 za1 fun zc2 => zrD (.prod (.int .i64) (.int .i64)) zc2 fun q0 => zrO o1 fun za3 => zrA1 za3 fun zc4 => zrI .i64 zc4 fun q1 => zrO o4 fun za5 => zrA1 za5 fun zc6 => zrNil zc6 <| zrO o5 fun za7 => zrA1 za7 fun zc8 => zrI .i64 zc8 fun q2 => zrO o6 fun za9 => zrA1 za9 fun zc10 => zrSl 980 0 (none) zc10 <| zrO o7 fun za11 => zrA1 za11 fun zc12 => zrI .i64 zc12 fun q3 => zrL own fun zq13 zw14 => zrKey 980 zq13 fun zk15 => zrR true 38 (.prod (.int .i64) (.int .i64)) zk15 fun q4 => zrN zw14 <| some ((q0, q1, q2), (q3, q4))
noncomputable def rgw_can (st : Stt) : Stt := canA [2, 3, 8, 9, 10, 11, 12, 13, 14, 15, 16, 17, 18, 19, 20, 21, 22, 23, 24, 25, 26, 27, 28, 29, 30, 31, 32, 33, 34, 35, 36, 37, 38, 39, 40, 41, 42, 43, 44, 45, 46] [⟨980, some 6, 0, 0, 38, (.prod (.int .i64) (.int .i64))⟩] [980] [1036] 1015 st
noncomputable def rgw_cok (st : Stt) : Bool := canAok [2, 3, 8, 9, 10, 11, 12, 13, 14, 15, 16, 17, 18, 19, 20, 21, 22, 23, 24, 25, 26, 27, 28, 29, 30, 31, 32, 33, 34, 35, 36, 37, 38, 39, 40, 41, 42, 43, 44, 45, 46] [⟨980, some 6, 0, 0, 38, (.prod (.int .i64) (.int .i64))⟩] [980] [1036] 1015 st
noncomputable def rgw_read (st : Stt) : Option (rgw_U × rgw_V) := rgw_rd (rgw_cok st && (staysA [⟨980, some 6, 0, 0, 38, (.prod (.int .i64) (.int .i64))⟩] [980] st.own && juAll [2, 3, 8, 9, 10, 11, 12, 13, 14, 15, 16, 17, 18, 19, 20, 21, 22, 23, 24, 25, 26, 27, 28, 29, 30, 31, 32, 33, 34, 35, 36, 37, 38, 39, 40, 41, 42, 43, 44, 45, 46] (rgw_can st).tm 47)) (rgw_can st).tm[0]? (rgw_can st).tm[1]? (rgw_can st).tm[4]? (rgw_can st).tm[5]? (rgw_can st).tm[6]? (rgw_can st).tm[7]? (rgw_can st).own
set_option maxRecDepth 100000 in
set_option maxHeartbeats 4000000 in
theorem rgw_rd_ok {b : Bool} {tm : List AV} {own : Own} {u : rgw_U} {v : rgw_V} (hj : b = true → juAll [2, 3, 8, 9, 10, 11, 12, 13, 14, 15, 16, 17, 18, 19, 20, 21, 22, 23, 24, 25, 26, 27, 28, 29, 30, 31, 32, 33, 34, 35, 36, 37, 38, 39, 40, 41, 42, 43, 44, 45, 46] tm 47 = true) (h : rgw_rd b tm[0]? tm[1]? tm[4]? tm[5]? tm[6]? tm[7]? own = some (u, v)) : b = true ∧ tm = (rgw_St u v).tm ∧ own = (rgw_St u v).own := by
  unfold rgw_rd at h
  obtain ⟨rfl, h0⟩ := zrT_some h
  obtain ⟨za1, e0, h1⟩ := zrO_some h0
  obtain ⟨zc2, rfl, h2⟩ := zrA1_some h1
  obtain ⟨q0, rfl, h3⟩ := zrD_some h2
  obtain ⟨za3, e1, h4⟩ := zrO_some h3
  obtain ⟨zc4, rfl, h5⟩ := zrA1_some h4
  obtain ⟨q1, rfl, h6⟩ := zrI_some h5
  obtain ⟨za5, e4, h7⟩ := zrO_some h6
  obtain ⟨zc6, rfl, h8⟩ := zrA1_some h7
  obtain ⟨rfl, h9⟩ := zrNil_some h8
  obtain ⟨za7, e5, h10⟩ := zrO_some h9
  obtain ⟨zc8, rfl, h11⟩ := zrA1_some h10
  obtain ⟨q2, rfl, h12⟩ := zrI_some h11
  obtain ⟨za9, e6, h13⟩ := zrO_some h12
  obtain ⟨zc10, rfl, h14⟩ := zrA1_some h13
  obtain ⟨rfl, h15⟩ := zrSl_some h14
  obtain ⟨za11, e7, h16⟩ := zrO_some h15
  obtain ⟨zc12, rfl, h17⟩ := zrA1_some h16
  obtain ⟨q3, rfl, h18⟩ := zrI_some h17
  obtain ⟨zq13, zw14, rfl, h19⟩ := zrL_some h18
  obtain ⟨zk15, rfl, h20⟩ := zrKey_some h19
  obtain ⟨q4, rfl, h21⟩ := zrR_some h20
  obtain ⟨rfl, h22⟩ := zrN_some h21
  have h := Option.some.inj h22
  have hu := congrArg Prod.fst h
  have hv := congrArg Prod.snd h
  dsimp only at hu hv
  subst hu
  subst hv
  exact ⟨rfl, (tm_fill (hj rfl) (Lv := [(0, .one (.d false false (.prod (.int .i64) (.int .i64)) q0)), (1, .one (.v false (.int .i64 q1))), (4, .one (.v false (Value.slice none (0 : Nat) (0 : Nat)))), (5, .one (.v false (.int .i64 q2))), (6, .one (.s false 980 0 (none))), (7, .one (.v false (.int .i64 q3)))]) (by kernel_rfl) ⟨e0, e1, e4, e5, e6, e7, trivial⟩).trans (by kernel_rfl), rfl⟩
theorem rgw_read_ok (st : Stt) (u : rgw_U) (v : rgw_V) (h : rgw_read st = some (u, v)) : rgw_cok st = true ∧ staysA [⟨980, some 6, 0, 0, 38, (.prod (.int .i64) (.int .i64))⟩] [980] st.own = true ∧ rgw_can st = rgw_St u v := by
  obtain ⟨h1, h2, h3⟩ := rgw_rd_ok (fun hb => by rw [Bool.and_eq_true, Bool.and_eq_true] at hb; exact hb.2.2) h
  rw [Bool.and_eq_true, Bool.and_eq_true] at h1
  refine ⟨h1.1, h1.2.1, ?_⟩
  have e : rgw_can st = ⟨(rgw_can st).tm, (rgw_can st).own, 1015⟩ := by kernel_rfl
  rw [e, h2, h3]
  rfl
noncomputable def rgw_cond (u : rgw_U) (v : rgw_V) : Bool := runC (rgw_step u) v
noncomputable def rgw_g (u : rgw_U) (v : rgw_V) : Nat × rgw_V := runG (rgw_step u) v
theorem rgw_hg : ∀ (u : rgw_U) (v : rgw_V), rgw_cond u v = true → loopN (rgw_step u) ((fun u v => runF (rgw_step u) v) u v) v = some (rgw_g u v) := by
  exact fun u v h => run_hg h
noncomputable def rgw_m (st : Stt) : Option (Tr (Ex × Stt)) := sumM rgw_read rgw_cond rgw_St rgw_g [(0, .exit 0)] st
noncomputable def ruG_L53 : FuncId → Loops := addL 28 [0, 1, 0, 1, 1, 1] rgw_m ruG_L51
set_option maxRecDepth 100000 in
set_option maxHeartbeats 4000000 in
theorem ruG_L53_ok : LoopsOK Try.prog ruG_L53 :=
  loop_sumF (body := (bodyOf Try.prog 28)) (c := (loopOf (bodyOf Try.prog 28) [1, 1, 1, 0, 1, 0])) (kinds := [.exit 0]) (allow := [(0, .exit 0)]) (St := rgw_St) (step := rgw_step) (W := [2, 3, 8, 9, 10, 11, 12, 13, 14, 15, 16, 17, 18, 19, 20, 21, 22, 23, 24, 25, 26, 27, 28, 29, 30, 31, 32, 33, 34, 35, 36, 37, 38, 39, 40, 41, 42, 43, 44, 45, 46]) (As := [⟨980, some 6, 0, 0, 38, (.prod (.int .i64) (.int .i64))⟩]) (ks := [980]) (dd := [1036]) (nx := 1015) (n := 100000) (g := rgw_g) (cond := rgw_cond) (fuel := (fun u v => runF (rgw_step u) v)) (read := rgw_read) (by kernel_rfl) (ruG_S52_ok) (ruG_L51_ok) 7 ⟨Try.f28, by kernel_rfl, by kernel_rfl⟩ (by kernel_rfl) (by kernel_rfl) (by kernel_rfl) rgw_step_eq rgw_hg rgw_read_ok
theorem rgw_run {L : Rl} {k : Int} (hv : valR L) (hn : L.length ≤ 10000) (k0 : 0 ≤ k) (k1 : k ≤ 65536) : rgw_cond (L, k, 0) (0, []) = true ∧ rgw_g (L, k, 0) (0, []) = (0, ((L.length : Int), mvR L (-k) k)) := by
  have R := run_steps (step := rgw_step (L, k, 0)) (St := fun j => ((j : Int), mvR (L.take j) (-k) k)) (n := L.length) (t := (0, ((L.length : Int), mvR L (-k) k))) (by
    simp only [rgw_step, Tr.val, Int.lt_irrefl, decide_false, cond_false, List.take_length]) L.length 0 (Nat.zero_add _) (fun j _ hj => by
    have g := good_in hv hj
    have w2 : IntKind.wrap IntKind.i64 (L[j].1 - k) = L[j].1 + -k := by rw [wid (by omega) (by omega)]; omega
    have w3 : IntKind.wrap IntKind.i64 (L[j].2 + k) = L[j].2 + k := wid (by omega) (by omega)
    have d : decide (L[j].1 + -k < L[j].2 + k) = true := decide_eq_true (by omega)
    have hl := mvR_len (L.take j) (-k) k
    rw [List.length_take] at hl
    obtain ⟨r1, r2⟩ := room16 (n := (mvR (L.take j) (-k) k).length + 1) (by omega)
    rw [mvR_take hj, d]
    simp only [rgw_step, Tr.val, lt_t hj, nn_t, el_r hj, w2, w3, r1, r2, wi1 hj (show (L.length : Int) ≤ 9223372036854775806 by omega), Bool.and_self, cond_true])
  exact R
theorem gw_map {L : Rl} {k : Int} (hv : valR L) (k0 : 0 ≤ k) : mvR L (-k) k = L.map fun r => (r.1 + -k, r.2 + k) := mvR_map fun r hr => by have := val_in hv r hr; omega
theorem gw_ok {L : Rl} {k : Int} (hv : valR L) (k0 : 0 ≤ k) (h0 : 0 < L.length) : okR (mvR L (-k) k) = (decide (-1048576 ≤ L[0].1 + -k) && decide ((L[L.length - 1]'(by omega)).2 + k ≤ 1048576)) := by
  rw [gw_map hv k0, Bool.eq_iff_iff]
  unfold okR
  rw [List.all_eq_true, Bool.and_eq_true, decide_eq_true_eq, decide_eq_true_eq]
  constructor
  · intro h
    have a := h _ (List.mem_map.2 ⟨_, List.getElem_mem h0, rfl⟩)
    have b := h _ (List.mem_map.2 ⟨_, List.getElem_mem (show L.length - 1 < L.length by omega), rfl⟩)
    have a' := good_in hv h0
    have b' := good_in hv (j := L.length - 1) (by omega)
    dsimp only at a b
    rw [decide_eq_true (show L[0].1 + -k < L[0].2 + k by omega), cond_true, Bool.and_eq_true, decide_eq_true_eq, decide_eq_true_eq] at a
    rw [decide_eq_true (show (L[L.length - 1]'(by omega)).1 + -k < (L[L.length - 1]'(by omega)).2 + k by omega), cond_true, Bool.and_eq_true, decide_eq_true_eq, decide_eq_true_eq] at b
    exact ⟨a.1, b.2⟩
  · intro ⟨a, b⟩ q hq
    obtain ⟨r, hr, rfl⟩ := List.mem_map.1 hq
    have := val_ends hv h0 r hr
    dsimp only
    rw [decide_eq_true (show -1048576 ≤ r.1 + -k by omega), decide_eq_true (show r.2 + k ≤ 1048576 by omega)]
    cases decide (r.1 + -k < r.2 + k) <;> rfl
theorem gw_mrg {L : Rl} {k : Int} (hv : valR L) (k0 : 0 ≤ k) (k1 : k ≤ 65536) : mrgR (mvR L (-k) k) = nfR (memR (mvR L (-k) k)) := by
  rw [gw_map hv k0]
  refine mrgR_nf (lo := -10000000) (fun q hq => ?_) ?_
  · obtain ⟨r, hr, rfl⟩ := List.mem_map.1 hq
    have := val_in hv r hr
    constructor
    · show r.1 + -k < r.2 + k; omega
    · show -10000000 < r.1 + -k; omega
  · rw [List.pairwise_map]
    exact hv.1.pair.1.imp fun {a b} h => by show a.1 + -k ≤ b.1 + -k; omega
set_option maxRecDepth 100000 in
theorem rgwc_tree (L : (Ty.list (.prod (.int .i64) (.int .i64))).den) (k : Int) : evalF Try.prog ruG_S52 (opens []) ruG_L53 9 28 [.one (.d false false (.prod (.int .i64) (.int .i64)) L), .one (.v false (.int .i64 k))] = .br (((decide (List.length L ≤ (100000 : Nat))) && (bif bif bif !valB L then true else decide (k < (0 : Int)) then true else decide (k > (65536 : Int)) then true else ((rgw_cond (L, k, (0 : Int)) ((0 : Int), [])) && ((Nat.beq (Prod.fst (rgw_g (L, k, (0 : Int)) ((0 : Int), []))) (0 : Nat)) && (decide (List.length (Prod.snd (Prod.snd (rgw_g (L, k, (0 : Int)) ((0 : Int), [])))) ≤ (10000 : Nat)))))))) (.ret (.tup [(false, [.d false false (.prod (.int .i64) (.int .i64)) (bif bif bif !valB L then true else decide (k < (0 : Int)) then true else decide (k > (65536 : Int)) then [] else nmL (Prod.snd (Prod.snd (rgw_g (L, k, (0 : Int)) ((0 : Int), [])))))]), (false, [.v false (.int .i64 (bif bif bif !valB L then true else decide (k < (0 : Int)) then true else decide (k > (65536 : Int)) then (1 : Int) else nmE (Prod.snd (Prod.snd (rgw_g (L, k, (0 : Int)) ((0 : Int), []))))))])])) (.bad 116) := by kernel_rfl
theorem rgwc_val (L : (Ty.list (.prod (.int .i64) (.int .i64))).den) (k : Int) (hc : (decide (L.length ≤ 10000)) = true) : (.br (((decide (List.length L ≤ (100000 : Nat))) && (bif bif bif !valB L then true else decide (k < (0 : Int)) then true else decide (k > (65536 : Int)) then true else ((rgw_cond (L, k, (0 : Int)) ((0 : Int), [])) && ((Nat.beq (Prod.fst (rgw_g (L, k, (0 : Int)) ((0 : Int), []))) (0 : Nat)) && (decide (List.length (Prod.snd (Prod.snd (rgw_g (L, k, (0 : Int)) ((0 : Int), [])))) ≤ (10000 : Nat)))))))) (.ret (.tup [(false, [.d false false (.prod (.int .i64) (.int .i64)) (bif bif bif !valB L then true else decide (k < (0 : Int)) then true else decide (k > (65536 : Int)) then [] else nmL (Prod.snd (Prod.snd (rgw_g (L, k, (0 : Int)) ((0 : Int), [])))))]), (false, [.v false (.int .i64 (bif bif bif !valB L then true else decide (k < (0 : Int)) then true else decide (k > (65536 : Int)) then (1 : Int) else nmE (Prod.snd (Prod.snd (rgw_g (L, k, (0 : Int)) ((0 : Int), []))))))])])) (.bad 116) : Tr AV).val = some (.tup [(false, [.d false false (.prod (.int .i64) (.int .i64)) (gwL L k)]), (false, [.v false (.int .i64 (gwE L k))])]) := by
  obtain ⟨K, rfl⟩ : ∃ K : Rl, K = L := ⟨L, rfl⟩
  have hn : K.length ≤ 10000 := of_decide_eq_true hc
  have cn : decide (K.length ≤ 100000) = true := decide_eq_true (by omega)
  unfold gwL gwE
  show cond _ _ _ = _
  cases hv : valB K
  · simp only [cn, Bool.not_false, Bool.false_and, Bool.and_self, cond_true, cond_false, Tr.val]
  · have h := valB_iff.1 hv
    by_cases k0 : k < 0
    · have d1 : decide (k < (0 : Int)) = true := decide_eq_true k0
      have d2 : decide (0 ≤ k) = false := decide_eq_false (by omega)
      simp only [cn, d1, d2, Bool.not_true, Bool.and_self, Bool.and_false, Bool.false_and, cond_true, cond_false, Tr.val]
    · have d1 : decide (k < (0 : Int)) = false := decide_eq_false k0
      have d2 : decide (0 ≤ k) = true := decide_eq_true (by omega)
      by_cases k1 : k > 65536
      · have d3 : decide (k > (65536 : Int)) = true := decide_eq_true k1
        have d4 : decide (k ≤ 65536) = false := decide_eq_false (by omega)
        simp only [cn, d1, d2, d3, d4, Bool.not_true, Bool.and_self, Bool.and_false, Bool.false_and, cond_true, cond_false, Tr.val]
      · have d3 : decide (k > (65536 : Int)) = false := decide_eq_false k1
        have d4 : decide (k ≤ 65536) = true := decide_eq_true (by omega)
        have ml := mvR_len K (-k) k
        obtain ⟨v1, v2⟩ := rgw_run (k := k) h hn (by omega) (by omega)
        have c3 : decide ((mvR K (-k) k).length ≤ 10000) = true := decide_eq_true (by omega)
        simp only [cn, d1, d2, d3, d4, v1, v2, c3, Nat.beq, Bool.not_true, Bool.and_self, cond_true, cond_false, Tr.val]
noncomputable def rgwc_g : List AV → Option (Tr AV)
  | [.one (.d _ _ (.prod (.int .i64) (.int .i64)) L), .one (.v _ (.int .i64 k))] => some (.br (decide (L.length ≤ 10000)) (.ret (.tup [(false, [.d false false (.prod (.int .i64) (.int .i64)) (gwL L k)]), (false, [.v false (.int .i64 (gwE L k))])])) (.bad 900))
  | _ => none
set_option maxHeartbeats 4000000 in
theorem rgwc_ok : FunOK Try.prog 28 rgwc_g := by
  refine fun_ok (by kernel_rfl) (ruG_S52_ok) (ruG_L53_ok) 9 (On := (opens [])) (fun args t h => ?_)
  unfold rgwc_g at h
  split at h
  · rename_i _ _ L _ k
    simp only [Option.some.injEq] at h
    subst h
    refine ⟨[.one (.d false false (.prod (.int .i64) (.int .i64)) L), .one (.v false (.int .i64 k))], rfl, fun fr w us h => h, fun r hr => ?_⟩
    obtain ⟨hc, hr⟩ := br_bad hr
    simp only [Tr.val, Option.some.injEq] at hr
    subst hr
    rw [rgwc_tree]
    exact rgwc_val L k hc
  · cases h
noncomputable def ruG_S54 : Sums := addS 28 rgwc_g ruG_S52
theorem ruG_S54_ok : SumOK Try.prog ruG_S54 := addS_ok (rgwc_ok) (ruG_S52_ok)
set_option maxRecDepth 100000 in
theorem cgwc_tree (L : (Ty.list (.prod (.int .i64) (.int .i64))).den) (k : Int) : evalF Try.prog ruG_S54 (opens []) ruG_L53 9 27 [.one (.d false false (.prod (.int .i64) (.int .i64)) L), .one (.v false (.int .i64 k))] = .br (((decide (List.length L ≤ (100000 : Nat))) && (bif bif bif !valB L then true else decide (k < (0 : Int)) then true else decide (k > (65536 : Int)) then true else ((mvOk L (IntKind.wrap IntKind.i64 ((0 : Int) - k)) k) && (((bif decide ((↑(List.length (mvR L (IntKind.wrap IntKind.i64 ((0 : Int) - k)) k)) : Int) > (0 : Int)) then ((decide ((0 : Int) ≤ (0 : Int)) && decide ((0 : Int) < (↑(List.length (mvR L (IntKind.wrap IntKind.i64 ((0 : Int) - k)) k)) : Int))) && (bif decide (Prod.fst (el_ii (mvR L (IntKind.wrap IntKind.i64 ((0 : Int) - k)) k) (0 : Int)) < (-1048576 : Int)) then true else (decide ((0 : Int) ≤ IntKind.wrap IntKind.i64 ((↑(List.length (mvR L (IntKind.wrap IntKind.i64 ((0 : Int) - k)) k)) : Int) - (1 : Int))) && decide (IntKind.wrap IntKind.i64 ((↑(List.length (mvR L (IntKind.wrap IntKind.i64 ((0 : Int) - k)) k)) : Int) - (1 : Int)) < (↑(List.length (mvR L (IntKind.wrap IntKind.i64 ((0 : Int) - k)) k)) : Int))))) else true)) && (bif bif decide ((↑(List.length (mvR L (IntKind.wrap IntKind.i64 ((0 : Int) - k)) k)) : Int) > (0 : Int)) then bif decide (Prod.fst (el_ii (mvR L (IntKind.wrap IntKind.i64 ((0 : Int) - k)) k) (0 : Int)) < (-1048576 : Int)) then true else decide (Prod.snd (el_ii (mvR L (IntKind.wrap IntKind.i64 ((0 : Int) - k)) k) (IntKind.wrap IntKind.i64 ((↑(List.length (mvR L (IntKind.wrap IntKind.i64 ((0 : Int) - k)) k)) : Int) - (1 : Int)))) > (1048576 : Int)) else false then true else (decide (List.length (mvR L (IntKind.wrap IntKind.i64 ((0 : Int) - k)) k) ≤ (100000 : Nat))))))))) (.ret (.tup [(false, [.d false false (.prod (.int .i64) (.int .i64)) (bif bif bif !valB L then true else decide (k < (0 : Int)) then true else decide (k > (65536 : Int)) then [] else bif bif decide ((↑(List.length (mvR L (IntKind.wrap IntKind.i64 ((0 : Int) - k)) k)) : Int) > (0 : Int)) then bif decide (Prod.fst (el_ii (mvR L (IntKind.wrap IntKind.i64 ((0 : Int) - k)) k) (0 : Int)) < (-1048576 : Int)) then true else decide (Prod.snd (el_ii (mvR L (IntKind.wrap IntKind.i64 ((0 : Int) - k)) k) (IntKind.wrap IntKind.i64 ((↑(List.length (mvR L (IntKind.wrap IntKind.i64 ((0 : Int) - k)) k)) : Int) - (1 : Int)))) > (1048576 : Int)) else false then [] else mrgR (mvR L (IntKind.wrap IntKind.i64 ((0 : Int) - k)) k))]), (false, [.v false (.int .i64 (bif bif bif !valB L then true else decide (k < (0 : Int)) then true else decide (k > (65536 : Int)) then (1 : Int) else bif bif decide ((↑(List.length (mvR L (IntKind.wrap IntKind.i64 ((0 : Int) - k)) k)) : Int) > (0 : Int)) then bif decide (Prod.fst (el_ii (mvR L (IntKind.wrap IntKind.i64 ((0 : Int) - k)) k) (0 : Int)) < (-1048576 : Int)) then true else decide (Prod.snd (el_ii (mvR L (IntKind.wrap IntKind.i64 ((0 : Int) - k)) k) (IntKind.wrap IntKind.i64 ((↑(List.length (mvR L (IntKind.wrap IntKind.i64 ((0 : Int) - k)) k)) : Int) - (1 : Int)))) > (1048576 : Int)) else false then (8 : Int) else (0 : Int)))])])) (.bad 116) := by kernel_rfl
theorem cgwc_val (L : (Ty.list (.prod (.int .i64) (.int .i64))).den) (k : Int) (hc : (decide (L.length ≤ 10000)) = true) : (.br (((decide (List.length L ≤ (100000 : Nat))) && (bif bif bif !valB L then true else decide (k < (0 : Int)) then true else decide (k > (65536 : Int)) then true else ((mvOk L (IntKind.wrap IntKind.i64 ((0 : Int) - k)) k) && (((bif decide ((↑(List.length (mvR L (IntKind.wrap IntKind.i64 ((0 : Int) - k)) k)) : Int) > (0 : Int)) then ((decide ((0 : Int) ≤ (0 : Int)) && decide ((0 : Int) < (↑(List.length (mvR L (IntKind.wrap IntKind.i64 ((0 : Int) - k)) k)) : Int))) && (bif decide (Prod.fst (el_ii (mvR L (IntKind.wrap IntKind.i64 ((0 : Int) - k)) k) (0 : Int)) < (-1048576 : Int)) then true else (decide ((0 : Int) ≤ IntKind.wrap IntKind.i64 ((↑(List.length (mvR L (IntKind.wrap IntKind.i64 ((0 : Int) - k)) k)) : Int) - (1 : Int))) && decide (IntKind.wrap IntKind.i64 ((↑(List.length (mvR L (IntKind.wrap IntKind.i64 ((0 : Int) - k)) k)) : Int) - (1 : Int)) < (↑(List.length (mvR L (IntKind.wrap IntKind.i64 ((0 : Int) - k)) k)) : Int))))) else true)) && (bif bif decide ((↑(List.length (mvR L (IntKind.wrap IntKind.i64 ((0 : Int) - k)) k)) : Int) > (0 : Int)) then bif decide (Prod.fst (el_ii (mvR L (IntKind.wrap IntKind.i64 ((0 : Int) - k)) k) (0 : Int)) < (-1048576 : Int)) then true else decide (Prod.snd (el_ii (mvR L (IntKind.wrap IntKind.i64 ((0 : Int) - k)) k) (IntKind.wrap IntKind.i64 ((↑(List.length (mvR L (IntKind.wrap IntKind.i64 ((0 : Int) - k)) k)) : Int) - (1 : Int)))) > (1048576 : Int)) else false then true else (decide (List.length (mvR L (IntKind.wrap IntKind.i64 ((0 : Int) - k)) k) ≤ (100000 : Nat))))))))) (.ret (.tup [(false, [.d false false (.prod (.int .i64) (.int .i64)) (bif bif bif !valB L then true else decide (k < (0 : Int)) then true else decide (k > (65536 : Int)) then [] else bif bif decide ((↑(List.length (mvR L (IntKind.wrap IntKind.i64 ((0 : Int) - k)) k)) : Int) > (0 : Int)) then bif decide (Prod.fst (el_ii (mvR L (IntKind.wrap IntKind.i64 ((0 : Int) - k)) k) (0 : Int)) < (-1048576 : Int)) then true else decide (Prod.snd (el_ii (mvR L (IntKind.wrap IntKind.i64 ((0 : Int) - k)) k) (IntKind.wrap IntKind.i64 ((↑(List.length (mvR L (IntKind.wrap IntKind.i64 ((0 : Int) - k)) k)) : Int) - (1 : Int)))) > (1048576 : Int)) else false then [] else mrgR (mvR L (IntKind.wrap IntKind.i64 ((0 : Int) - k)) k))]), (false, [.v false (.int .i64 (bif bif bif !valB L then true else decide (k < (0 : Int)) then true else decide (k > (65536 : Int)) then (1 : Int) else bif bif decide ((↑(List.length (mvR L (IntKind.wrap IntKind.i64 ((0 : Int) - k)) k)) : Int) > (0 : Int)) then bif decide (Prod.fst (el_ii (mvR L (IntKind.wrap IntKind.i64 ((0 : Int) - k)) k) (0 : Int)) < (-1048576 : Int)) then true else decide (Prod.snd (el_ii (mvR L (IntKind.wrap IntKind.i64 ((0 : Int) - k)) k) (IntKind.wrap IntKind.i64 ((↑(List.length (mvR L (IntKind.wrap IntKind.i64 ((0 : Int) - k)) k)) : Int) - (1 : Int)))) > (1048576 : Int)) else false then (8 : Int) else (0 : Int)))])])) (.bad 116) : Tr AV).val = some (.tup [(false, [.d false false (.prod (.int .i64) (.int .i64)) (gwL L k)]), (false, [.v false (.int .i64 (gwE L k))])]) := by
  obtain ⟨K, rfl⟩ : ∃ K : Rl, K = L := ⟨L, rfl⟩
  have hn : K.length ≤ 10000 := of_decide_eq_true hc
  have cn : decide (K.length ≤ 100000) = true := decide_eq_true (by omega)
  unfold gwL gwE
  show cond _ _ _ = _
  cases hv : valB K
  · simp only [cn, Bool.not_false, Bool.false_and, Bool.and_self, cond_true, cond_false, Tr.val]
  · have h := valB_iff.1 hv
    by_cases k0 : k < 0
    · have d1 : decide (k < (0 : Int)) = true := decide_eq_true k0
      have d2 : decide (0 ≤ k) = false := decide_eq_false (by omega)
      simp only [cn, d1, d2, Bool.not_true, Bool.and_self, Bool.and_false, Bool.false_and, cond_true, cond_false, Tr.val]
    · have d1 : decide (k < (0 : Int)) = false := decide_eq_false k0
      have d2 : decide (0 ≤ k) = true := decide_eq_true (by omega)
      by_cases k1 : k > 65536
      · have d3 : decide (k > (65536 : Int)) = true := decide_eq_true k1
        have d4 : decide (k ≤ 65536) = false := decide_eq_false (by omega)
        simp only [cn, d1, d2, d3, d4, Bool.not_true, Bool.and_self, Bool.and_false, Bool.false_and, cond_true, cond_false, Tr.val]
      · have d3 : decide (k > (65536 : Int)) = false := decide_eq_false k1
        have d4 : decide (k ≤ 65536) = true := decide_eq_true (by omega)
        have ml := mvR_len K (-k) k
        have wk : IntKind.wrap IntKind.i64 ((0 : Int) - k) = -k := by rw [wid (by omega) (by omega)]; omega
        have mo : mvOk K (-k) k = true := by
          unfold mvOk
          simp only [Bool.and_eq_true, decide_eq_true_eq]
          exact ⟨hv, by omega, by omega, by omega, by omega, by omega⟩
        have c3 : decide ((mvR K (-k) k).length ≤ 100000) = true := decide_eq_true (by omega)
        have mg := gw_mrg (k := k) h (by omega) (by omega)
        unfold nmL nmE
        by_cases h0 : K.length = 0
        · have e : K = [] := List.length_eq_zero_iff.1 h0
          subst e
          have e1 : mvR [] (-k) k = [] := rfl
          rw [e1] at mg
          have e2 : decide (((List.length ([] : Rl) : Nat) : Int) > (0 : Int)) = false := rfl
          have e3 : okR [] = true := rfl
          simp only [cn, d1, d2, d3, d4, wk, mo, e1, e2, e3, ← mg, Bool.not_true, Bool.and_self, cond_true, cond_false, Tr.val]
        · have hp : 0 < K.length := by omega
          have a := good_in h hp
          have z := good_in h (j := K.length - 1) (by omega)
          have hs := gw_ok (k := k) h (by omega) hp
          have lm : (mvR K (-k) k).length = K.length := by rw [gw_map h (by omega), List.length_map]
          have e0 : el_ii (mvR K (-k) k) (0 : Int) = (K[0].1 + -k, K[0].2 + k) := by
            have := el_r (L := mvR K (-k) k) (i := 0) (by omega)
            rw [show ((0 : Nat) : Int) = 0 from rfl] at this
            rw [this]
            simp only [gw_map h (show (0 : Int) ≤ k by omega), List.getElem_map]
          have e1 : IntKind.wrap IntKind.i64 ((K.length : Int) - (1 : Int)) = ((K.length - 1 : Nat) : Int) := by rw [wid (by omega) (by omega)]; omega
          have e2 : el_ii (mvR K (-k) k) ((K.length - 1 : Nat) : Int) = ((K[K.length - 1]'(by omega)).1 + -k, (K[K.length - 1]'(by omega)).2 + k) := by
            rw [el_r (L := mvR K (-k) k) (i := K.length - 1) (by omega)]
            simp only [gw_map h (show (0 : Int) ≤ k by omega), List.getElem_map]
          have c0 : decide ((0 : Int) < (K.length : Int)) = true := decide_eq_true (by omega)
          have c1 : decide (((K.length - 1 : Nat) : Int) < (K.length : Int)) = true := decide_eq_true (by omega)
          have c2 : decide ((K.length : Int) > (0 : Int)) = true := decide_eq_true (by omega)
          have c4 : decide ((0 : Int) ≤ (0 : Int)) = true := rfl
          have c5 : decide (K.length ≤ 100000) = true := cn
          simp only [cn, d1, d2, d3, d4, wk, mo, lm, c0, c1, c2, c4, nn_t, e0, e1, e2, hs, mg, Bool.not_true, Bool.and_self, Bool.cond_self, cond_true, cond_false]
          by_cases q1 : K[0].1 + -k < -1048576
          · have f1 : decide (K[0].1 + -k < -1048576) = true := decide_eq_true q1
            have f2 : decide (-1048576 ≤ K[0].1 + -k) = false := decide_eq_false (by omega)
            simp only [f1, f2, Bool.false_and, cond_true, cond_false]
            rfl
          · have f1 : decide (K[0].1 + -k < -1048576) = false := decide_eq_false q1
            have f2 : decide (-1048576 ≤ K[0].1 + -k) = true := decide_eq_true (by omega)
            by_cases q2 : (K[K.length - 1]'(by omega)).2 + k > 1048576
            · have f3 : decide ((K[K.length - 1]'(by omega)).2 + k > 1048576) = true := decide_eq_true q2
              have f4 : decide ((K[K.length - 1]'(by omega)).2 + k ≤ 1048576) = false := decide_eq_false (by omega)
              simp only [f1, f2, f3, f4, Bool.and_false, cond_true, cond_false]
              rfl
            · have f3 : decide ((K[K.length - 1]'(by omega)).2 + k > 1048576) = false := decide_eq_false q2
              have f4 : decide ((K[K.length - 1]'(by omega)).2 + k ≤ 1048576) = true := decide_eq_true (by omega)
              simp only [f1, f2, f3, f4, Bool.and_self, cond_true, cond_false]
              rfl
noncomputable def cgwc_g : List AV → Option (Tr AV)
  | [.one (.d _ _ (.prod (.int .i64) (.int .i64)) L), .one (.v _ (.int .i64 k))] => some (.br (decide (L.length ≤ 10000)) (.ret (.tup [(false, [.d false false (.prod (.int .i64) (.int .i64)) (gwL L k)]), (false, [.v false (.int .i64 (gwE L k))])])) (.bad 900))
  | _ => none
set_option maxHeartbeats 4000000 in
theorem cgwc_ok : FunOK Try.prog 27 cgwc_g := by
  refine fun_ok (by kernel_rfl) (ruG_S54_ok) (ruG_L53_ok) 9 (On := (opens [])) (fun args t h => ?_)
  unfold cgwc_g at h
  split at h
  · rename_i _ _ L _ k
    simp only [Option.some.injEq] at h
    subst h
    refine ⟨[.one (.d false false (.prod (.int .i64) (.int .i64)) L), .one (.v false (.int .i64 k))], rfl, fun fr w us h => h, fun r hr => ?_⟩
    obtain ⟨hc, hr⟩ := br_bad hr
    simp only [Tr.val, Option.some.injEq] at hr
    subst hr
    rw [cgwc_tree]
    exact cgwc_val L k hc
  · cases h
noncomputable def ruG_S55 : Sums := addS 27 cgwc_g ruG_S54
theorem ruG_S55_ok : SumOK Try.prog ruG_S55 := addS_ok (cgwc_ok) (ruG_S54_ok)
theorem few_len (L : Rl) : (fewR L).length ≤ 40 := by unfold fewR; rw [List.length_take]; omega
theorem eqRl_refl (A : Rl) : eqRl A A = true := decide_eq_true rfl
theorem nf_val {L : Rl} (h : okR L = true) : nmL L = nfR (memR L) := by unfold nmL; rw [h]; rfl
theorem mseg_len (f : Int → Bool) (bs : List Int) : (mrgR (seg f bs)).length ≤ bs.length + 1 := by
  have := upR_len f bs (bs.length - 1)
  rw [upR_last] at this
  omega
theorem chL_len (A B : Rl) (an : Int) : (chL A B an).length ≤ 2 * (A.length + B.length) + 1 := by
  unfold chL
  cases valB A && valB B
  · simp
  · simp only [cond_true]
    rw [← cho_nf]
    have h1 := mseg_len (fun x => opE an (memB A x) (memB B x)) (bsR (A ++ B))
    have h2 := bsR_len (A ++ B)
    rw [List.length_append] at h2
    omega
theorem nmL_len (L : Rl) : (nmL L).length ≤ 2 * L.length + 1 := by
  unfold nmL
  cases okR L
  · simp
  · simp only [cond_true]
    rw [← nml_nf]
    have h1 := mseg_len (memB L) (bsR L)
    have h2 := bsR_len L
    omega
theorem gwL_len (L : Rl) (k : Int) : (gwL L k).length ≤ 2 * L.length + 1 := by
  unfold gwL
  cases valB L && (decide (0 ≤ k) && decide (k ≤ 65536))
  · simp
  · have h1 := nmL_len (mvR L (-k) k)
    have h2 := mvR_len L (-k) k
    simp only [cond_true]
    omega
theorem shL_len (L : Rl) (k : Int) : (shL L k).length ≤ L.length := by
  unfold shL
  cases valB L
  · simp
  · cases shOk L k
    · simp
    · exact mvR_len L k k
theorem skR_len (L : Rl) (k : Int) : (skR L k).length ≤ L.length := by
  unfold skR
  cases valB L && (decide (0 ≤ k) && decide (k ≤ 1048576))
  · simp
  · exact mvR_len L k (-k)
set_option maxRecDepth 100000 in
theorem law_RunsChooses_tree (A : (Ty.list (.prod (.int .i64) (.int .i64))).den) (B : (Ty.list (.prod (.int .i64) (.int .i64))).den) : evalF Try.prog ruG_S55 (opens []) ruG_L53 9 4 [.one (.d false false (.prod (.int .i64) (.int .i64)) A), .one (.d false false (.prod (.int .i64) (.int .i64)) B)] = .br ((((decide (List.length (fewR A) ≤ (4000 : Nat)) && decide (List.length (fewR B) ≤ (4000 : Nat)))) && (((decide (List.length (fewR A) ≤ (4000 : Nat)) && decide (List.length (fewR B) ≤ (4000 : Nat)))) && ((decide (List.length (chL (fewR A) (fewR B) (2 : Int)) ≤ (100000 : Nat))) && (bif eqRl (chL (fewR A) (fewR B) (2 : Int)) (chL (fewR A) (fewR B) (2 : Int)) then (((decide (List.length (fewR A) ≤ (4000 : Nat)) && decide (List.length (fewR B) ≤ (4000 : Nat)))) && (((decide (List.length (fewR A) ≤ (4000 : Nat)) && decide (List.length (fewR B) ≤ (4000 : Nat)))) && ((decide (List.length (chL (fewR A) (fewR B) (1 : Int)) ≤ (100000 : Nat))) && (bif eqRl (chL (fewR A) (fewR B) (1 : Int)) (chL (fewR A) (fewR B) (1 : Int)) then (((decide (List.length (fewR A) ≤ (4000 : Nat)) && decide (List.length (fewR B) ≤ (4000 : Nat)))) && (((decide (List.length (fewR A) ≤ (4000 : Nat)) && decide (List.length (fewR B) ≤ (4000 : Nat)))) && (decide (List.length (chL (fewR A) (fewR B) (0 : Int)) ≤ (100000 : Nat))))) else true)))) else true))))) (.ret (.one (.v false (.bool (bif eqRl (chL (fewR A) (fewR B) (2 : Int)) (chL (fewR A) (fewR B) (2 : Int)) then bif eqRl (chL (fewR A) (fewR B) (1 : Int)) (chL (fewR A) (fewR B) (1 : Int)) then bif eqRl (chL (fewR A) (fewR B) (0 : Int)) (chL (fewR A) (fewR B) (0 : Int)) then true else false else false else false))))) (.bad 116) := by kernel_rfl
set_option maxHeartbeats 4000000 in
theorem law_RunsChooses_all (A : (Ty.list (.prod (.int .i64) (.int .i64))).den) (B : (Ty.list (.prod (.int .i64) (.int .i64))).den) (r0 : Ty.InR (.list (.prod (.int .i64) (.int .i64))) A) (r1 : Ty.InR (.list (.prod (.int .i64) (.int .i64))) B)  : Tr.all (fun r => ∃ kn, r = AV.one (.v kn (.bool true))) (.br ((((decide (List.length (fewR A) ≤ (4000 : Nat)) && decide (List.length (fewR B) ≤ (4000 : Nat)))) && (((decide (List.length (fewR A) ≤ (4000 : Nat)) && decide (List.length (fewR B) ≤ (4000 : Nat)))) && ((decide (List.length (chL (fewR A) (fewR B) (2 : Int)) ≤ (100000 : Nat))) && (bif eqRl (chL (fewR A) (fewR B) (2 : Int)) (chL (fewR A) (fewR B) (2 : Int)) then (((decide (List.length (fewR A) ≤ (4000 : Nat)) && decide (List.length (fewR B) ≤ (4000 : Nat)))) && (((decide (List.length (fewR A) ≤ (4000 : Nat)) && decide (List.length (fewR B) ≤ (4000 : Nat)))) && ((decide (List.length (chL (fewR A) (fewR B) (1 : Int)) ≤ (100000 : Nat))) && (bif eqRl (chL (fewR A) (fewR B) (1 : Int)) (chL (fewR A) (fewR B) (1 : Int)) then (((decide (List.length (fewR A) ≤ (4000 : Nat)) && decide (List.length (fewR B) ≤ (4000 : Nat)))) && (((decide (List.length (fewR A) ≤ (4000 : Nat)) && decide (List.length (fewR B) ≤ (4000 : Nat)))) && (decide (List.length (chL (fewR A) (fewR B) (0 : Int)) ≤ (100000 : Nat))))) else true)))) else true))))) (.ret (.one (.v false (.bool (bif eqRl (chL (fewR A) (fewR B) (2 : Int)) (chL (fewR A) (fewR B) (2 : Int)) then bif eqRl (chL (fewR A) (fewR B) (1 : Int)) (chL (fewR A) (fewR B) (1 : Int)) then bif eqRl (chL (fewR A) (fewR B) (0 : Int)) (chL (fewR A) (fewR B) (0 : Int)) then true else false else false else false))))) (.bad 116)) := by
  have ha := few_len A
  have hb := few_len B
  have l2 := chL_len (fewR A) (fewR B) 2
  have l1 := chL_len (fewR A) (fewR B) 1
  have l0 := chL_len (fewR A) (fewR B) 0
  have c1 : decide ((fewR A).length ≤ 4000) = true := decide_eq_true (by omega)
  have c2 : decide ((fewR B).length ≤ 4000) = true := decide_eq_true (by omega)
  have d2 : decide ((chL (fewR A) (fewR B) 2).length ≤ 100000) = true := decide_eq_true (by omega)
  have d1 : decide ((chL (fewR A) (fewR B) 1).length ≤ 100000) = true := decide_eq_true (by omega)
  have d0 : decide ((chL (fewR A) (fewR B) 0).length ≤ 100000) = true := decide_eq_true (by omega)
  simp only [c1, c2, d2, d1, d0, eqRl_refl, Bool.and_self, cond_true, cond_false]
  exact ⟨fun _ => ⟨_, rfl⟩, fun h => by cases h⟩
set_option maxHeartbeats 4000000 in
theorem law_RunsChooses (v0 : Value) (x0 : ((.list (.prod (.int .i64) (.int .i64))) : Ty).den) (r0 : Ty.InR (.list (.prod (.int .i64) (.int .i64))) x0) (v1 : Value) (x1 : ((.list (.prod (.int .i64) (.int .i64))) : Ty).den) (r1 : Ty.InR (.list (.prod (.int .i64) (.int .i64))) x1) (z_w : World) (i0 : (AV.one (.d false false (.prod (.int .i64) (.int .i64)) x0)).is [] (fun _ => none) (fun b => b < z_w.heap.size) z_w v0) (i1 : (AV.one (.d false false (.prod (.int .i64) (.int .i64)) x1)).is [] (fun _ => none) (fun b => b < z_w.heap.size) z_w v1) : Calls Try.prog 4 #[v0, v1] z_w fun e w' => e = .returned (.bool true) ∧ Ext z_w w' := by
  obtain ⟨A, rfl⟩ : ∃ y, y = x0 := ⟨_, rfl⟩
  obtain ⟨B, rfl⟩ : ∃ y, y = x1 := ⟨_, rfl⟩
  refine law_of_tree (by kernel_rfl) (ruG_S55_ok) (ruG_L53_ok) (law_RunsChooses_tree A B) (law_RunsChooses_all A B r0 r1 ) rfl z_w _ _ (fun _ h => h) ⟨_, _, rfl, i0, ⟨_, _, rfl, i1, rfl⟩⟩
set_option maxRecDepth 100000 in
theorem law_RunsMoves_tree (L : (Ty.list (.prod (.int .i64) (.int .i64))).den) (n : Int) : evalF Try.prog ruG_S55 (opens []) ruG_L53 9 5 [.one (.d false false (.prod (.int .i64) (.int .i64)) L), .one (.v false (.int .i64 n))] = .br (((decide (List.length (fewR L) ≤ (100000 : Nat))) && ((decide (List.length (fewR L) ≤ (100000 : Nat))) && ((decide (List.length (fewR L) ≤ (10000 : Nat))) && ((decide (List.length (fewR L) ≤ (10000 : Nat))) && ((decide (List.length (shL (fewR L) n) ≤ (100000 : Nat))) && (bif bif eqRl (shL (fewR L) n) (shL (fewR L) n) then shE (fewR L) n == shE (fewR L) n else false then ((decide (List.length (gwL (fewR L) n) ≤ (100000 : Nat))) && (bif bif eqRl (gwL (fewR L) n) (gwL (fewR L) n) then gwE (fewR L) n == gwE (fewR L) n else false then ((decide (List.length (fewR L) ≤ (100000 : Nat))) && ((decide (List.length (fewR L) ≤ (100000 : Nat))) && (decide (List.length (skR (fewR L) n) ≤ (100000 : Nat))))) else true)) else true))))))) (.ret (.one (.v false (.bool (bif bif eqRl (shL (fewR L) n) (shL (fewR L) n) then shE (fewR L) n == shE (fewR L) n else false then bif bif eqRl (gwL (fewR L) n) (gwL (fewR L) n) then gwE (fewR L) n == gwE (fewR L) n else false then bif eqRl (skR (fewR L) n) (skR (fewR L) n) then true else false else false else false))))) (.bad 116) := by kernel_rfl
set_option maxHeartbeats 4000000 in
theorem law_RunsMoves_all (L : (Ty.list (.prod (.int .i64) (.int .i64))).den) (n : Int) (r0 : Ty.InR (.list (.prod (.int .i64) (.int .i64))) L) (l1 : -9223372036854775808 ≤ n) (g1 : n ≤ 9223372036854775807) : Tr.all (fun r => ∃ kn, r = AV.one (.v kn (.bool true))) (.br (((decide (List.length (fewR L) ≤ (100000 : Nat))) && ((decide (List.length (fewR L) ≤ (100000 : Nat))) && ((decide (List.length (fewR L) ≤ (10000 : Nat))) && ((decide (List.length (fewR L) ≤ (10000 : Nat))) && ((decide (List.length (shL (fewR L) n) ≤ (100000 : Nat))) && (bif bif eqRl (shL (fewR L) n) (shL (fewR L) n) then shE (fewR L) n == shE (fewR L) n else false then ((decide (List.length (gwL (fewR L) n) ≤ (100000 : Nat))) && (bif bif eqRl (gwL (fewR L) n) (gwL (fewR L) n) then gwE (fewR L) n == gwE (fewR L) n else false then ((decide (List.length (fewR L) ≤ (100000 : Nat))) && ((decide (List.length (fewR L) ≤ (100000 : Nat))) && (decide (List.length (skR (fewR L) n) ≤ (100000 : Nat))))) else true)) else true))))))) (.ret (.one (.v false (.bool (bif bif eqRl (shL (fewR L) n) (shL (fewR L) n) then shE (fewR L) n == shE (fewR L) n else false then bif bif eqRl (gwL (fewR L) n) (gwL (fewR L) n) then gwE (fewR L) n == gwE (fewR L) n else false then bif eqRl (skR (fewR L) n) (skR (fewR L) n) then true else false else false else false))))) (.bad 116)) := by
  have ha := few_len L
  have l2 := shL_len (fewR L) n
  have l1 := gwL_len (fewR L) n
  have l0 := skR_len (fewR L) n
  have c1 : decide ((fewR L).length ≤ 100000) = true := decide_eq_true (by omega)
  have c2 : decide ((fewR L).length ≤ 10000) = true := decide_eq_true (by omega)
  have d2 : decide ((shL (fewR L) n).length ≤ 100000) = true := decide_eq_true (by omega)
  have d1 : decide ((gwL (fewR L) n).length ≤ 100000) = true := decide_eq_true (by omega)
  have d0 : decide ((skR (fewR L) n).length ≤ 100000) = true := decide_eq_true (by omega)
  simp only [c1, c2, d2, d1, d0, eqRl_refl, beq_self_eq_true, Bool.and_self, cond_true, cond_false]
  exact ⟨fun _ => ⟨_, rfl⟩, fun h => by cases h⟩
set_option maxHeartbeats 4000000 in
theorem law_RunsMoves (v0 : Value) (x0 : ((.list (.prod (.int .i64) (.int .i64))) : Ty).den) (r0 : Ty.InR (.list (.prod (.int .i64) (.int .i64))) x0) (n : Int) (l1 : -9223372036854775808 ≤ n) (g1 : n ≤ 9223372036854775807) (z_w : World) (i0 : (AV.one (.d false false (.prod (.int .i64) (.int .i64)) x0)).is [] (fun _ => none) (fun b => b < z_w.heap.size) z_w v0) : Calls Try.prog 5 #[v0, .int .i64 n] z_w fun e w' => e = .returned (.bool true) ∧ Ext z_w w' := by
  obtain ⟨L, rfl⟩ : ∃ y, y = x0 := ⟨_, rfl⟩
  refine law_of_tree (by kernel_rfl) (ruG_S55_ok) (ruG_L53_ok) (law_RunsMoves_tree L n) (law_RunsMoves_all L n r0 l1 g1) rfl z_w _ _ (fun _ h => h) ⟨_, _, rfl, i0, ⟨_, _, rfl, rfl, rfl⟩⟩
end Go.Proofs.Ytklagccjkbajiaa
