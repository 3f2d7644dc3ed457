/-
  Layer 20: windows of rows, regions of rows.
-/
import Derived.Test.YtacgchandefjgaaProg
import Derived.Test.YtacgchandefjgaaFvX
import Derived.Test.YtacgchandefjgaaFvZ
import Derived.Test.YtacgchandefjgaaAut
import Derived.Test.YtacgchandefjgaaRd
import Derived.Test.YtacgchandefjgaaPl
import Derived.Test.YtacgchandefjgaaScn
import Derived.Test.YtacgchandefjgaaMor
import Derived.Test.YtacgchandefjgaaRgB
import Derived.Test.YtacgchandefjgaaRgC
import Derived.Test.YtacgchandefjgaaRgD
import Derived.Test.YtacgchandefjgaaMoB
namespace Go.Proofs.Ytacgchandefjgaa
open Go
abbrev rgo_U : Type := Int × (Ty.list (.list (.prod (.int .i64) (.int .i64)))).den × Int
noncomputable def rgo_St (u : rgo_U) (v : ctb0_U) : Stt := ⟨[.one .junk, .one (.v false (.int .i64 u.1)), .one .junk, .one .junk, .one (.p 0 0), .one (.p 1 0), .one .junk, .one .junk, .one (.d false false (.list (.prod (.int .i64) (.int .i64))) u.2.1), .one (.v false (.int .i64 u.2.2)), .one (.v false (.int .i64 v.1)), .one .junk, .one .junk, .one .junk, .one .junk, .one .junk, .one .junk, .one .junk, .one .junk, .one .junk, .one .junk, .one .junk, .one .junk, .one .junk, .one .junk, .one .junk, .one .junk, .one .junk, .one .junk, .one .junk], [(1, .cells [.s false 980 0 (none)]), (0, .cells [.v false (Value.slice none (0 : Nat) (0 : Nat))]), (980, .row true false false 56 (.prod (.int .i64) (.list (.prod (.int .i64) (.int .i64)))) v.2)], 1005⟩
def el_lii (l : (Ty.list (Ty.list (Ty.prod (Ty.int IntKind.i64) (Ty.int IntKind.i64)))).den) (i : Int) : (List (Int × Int)) := elm (Ty.list (Ty.prod (Ty.int IntKind.i64) (Ty.int IntKind.i64))) l i
noncomputable def rgo_step (u : rgo_U) (v : ctb0_U) : Tr (ctb0_U ⊕ (Nat × ctb0_U)) :=
  match u, v with
  | (q0, q1, q2), (q3, q4) => .br (decide (q3 < q2)) (.br (decide ((0 : Int) ≤ q3) && decide (q3 < (↑(List.length q1) : Int))) (.br (decide ((↑(List.length (el_lii q1 q3)) : Int) > (0 : Int))) (.br (decide ((List.length q4 + (1 : Nat)) * (32 : Nat) ≤ maxNew) && decide (List.length q4 + (1 : Nat) ≤ maxLen)) (.ret (.inl (IntKind.wrap .i64 (q3 + (1 : Int)), q4 ++ [(IntKind.wrap .i64 (q0 + q3), el_lii q1 q3)]))) (.bad 71)) (.ret (.inl (IntKind.wrap .i64 (q3 + (1 : Int)), q4)))) (.bad 29)) (.ret (.inr (0, (q3, q4))))
set_option maxRecDepth 100000 in
set_option maxHeartbeats 4000000 in
theorem rgo_step_eq : ∀ (u : rgo_U) (v : ctb0_U), (evalC Try.prog (evalB Try.prog moB_S52 (opens []) moA_L57 7).1 (evalB Try.prog moB_S52 (opens []) moA_L57 7).2 (opens []) (moA_L57 82) 100000 (0 :: [0, 1, 0, 1, 1]) (loopOf (bodyOf Try.prog 82) [1, 1, 0, 1, 0]) (rgo_St u v) []).bind (finF [0, 2, 3, 6, 7, 11, 12, 13, 14, 15, 16, 17, 18, 19, 20, 21, 22, 23, 24, 25, 26, 27, 28, 29] [⟨980, none, 1, 0, 56, (.prod (.int .i64) (.list (.prod (.int .i64) (.int .i64))))⟩] [1, 0, 980] [1022] 1005) = (rgo_step u v).bind (outA (rgo_St u) [.exit 0]) := by
  rintro ⟨q0, q1, q2⟩ ⟨q3, q4⟩
  kernel_rfl
noncomputable def rgo_rd (b : Bool) (o1 : Option AV) (o4 : Option AV) (o5 : Option AV) (o8 : Option AV) (o9 : Option AV) (o10 : Option AV) (own : Own) : Option (rgo_U × ctb0_U) := zrT b <| zrO o1 fun za1 => zrA1 za1 fun zc2 => zrI .i64 zc2 fun q0 => zrO o4 fun za3 => zrA1 za3 fun zc4 => zrP 0 0 zc4 <| zrO o5 fun za5 => zrA1 za5 fun zc6 => zrP 1 0 zc6 <| zrO o8 fun za7 => zrA1 za7 fun zc8 => zrD (.list (.prod (.int .i64) (.int .i64))) zc8 fun q1 => zrO o9 fun za9 => zrA1 za9 fun zc10 => zrI .i64 zc10 fun q2 => zrO o10 fun za11 => zrA1 za11 fun zc12 => zrI .i64 zc12 fun q3 => zrL own fun zq13 zw14 => zrKey 1 zq13 fun zk15 => zrC zk15 fun zl16 => zrL zl16 fun zc17 zr18 => zrSl 980 0 (none) zc17 <| zrN zr18 <| zrL zw14 fun zq19 zw20 => zrKey 0 zq19 fun zk21 => zrC zk21 fun zl22 => zrL zl22 fun zc23 zr24 => zrNil zc23 <| zrN zr24 <| zrL zw20 fun zq25 zw26 => zrKey 980 zq25 fun zk27 => zrR true 56 (.prod (.int .i64) (.list (.prod (.int .i64) (.int .i64)))) zk27 fun q4 => zrN zw26 <| some ((q0, q1, q2), (q3, q4))
noncomputable def rgo_can (st : Stt) : Stt := canA [0, 2, 3, 6, 7, 11, 12, 13, 14, 15, 16, 17, 18, 19, 20, 21, 22, 23, 24, 25, 26, 27, 28, 29] [⟨980, none, 1, 0, 56, (.prod (.int .i64) (.list (.prod (.int .i64) (.int .i64))))⟩] [1, 0, 980] [1022] 1005 st
noncomputable def rgo_cok (st : Stt) : Bool := canAok [0, 2, 3, 6, 7, 11, 12, 13, 14, 15, 16, 17, 18, 19, 20, 21, 22, 23, 24, 25, 26, 27, 28, 29] [⟨980, none, 1, 0, 56, (.prod (.int .i64) (.list (.prod (.int .i64) (.int .i64))))⟩] [1, 0, 980] [1022] 1005 st
noncomputable def rgo_read (st : Stt) : Option (rgo_U × ctb0_U) := rgo_rd (rgo_cok st && (staysA [⟨980, none, 1, 0, 56, (.prod (.int .i64) (.list (.prod (.int .i64) (.int .i64))))⟩] [1, 0, 980] st.own && juAll [0, 2, 3, 6, 7, 11, 12, 13, 14, 15, 16, 17, 18, 19, 20, 21, 22, 23, 24, 25, 26, 27, 28, 29] (rgo_can st).tm 30)) (rgo_can st).tm[1]? (rgo_can st).tm[4]? (rgo_can st).tm[5]? (rgo_can st).tm[8]? (rgo_can st).tm[9]? (rgo_can st).tm[10]? (rgo_can st).own
set_option maxRecDepth 100000 in
set_option maxHeartbeats 4000000 in
theorem rgo_rd_ok {b : Bool} {tm : List AV} {own : Own} {u : rgo_U} {v : ctb0_U} (hj : b = true → juAll [0, 2, 3, 6, 7, 11, 12, 13, 14, 15, 16, 17, 18, 19, 20, 21, 22, 23, 24, 25, 26, 27, 28, 29] tm 30 = true) (h : rgo_rd b tm[1]? tm[4]? tm[5]? tm[8]? tm[9]? tm[10]? own = some (u, v)) : b = true ∧ tm = (rgo_St u v).tm ∧ own = (rgo_St u v).own := by
  unfold rgo_rd at h
  obtain ⟨rfl, h0⟩ := zrT_some h
  obtain ⟨za1, e1, h1⟩ := zrO_some h0
  obtain ⟨zc2, rfl, h2⟩ := zrA1_some h1
  obtain ⟨q0, rfl, h3⟩ := zrI_some h2
  obtain ⟨za3, e4, h4⟩ := zrO_some h3
  obtain ⟨zc4, rfl, h5⟩ := zrA1_some h4
  obtain ⟨rfl, h6⟩ := zrP_some h5
  obtain ⟨za5, e5, h7⟩ := zrO_some h6
  obtain ⟨zc6, rfl, h8⟩ := zrA1_some h7
  obtain ⟨rfl, h9⟩ := zrP_some h8
  obtain ⟨za7, e8, h10⟩ := zrO_some h9
  obtain ⟨zc8, rfl, h11⟩ := zrA1_some h10
  obtain ⟨q1, rfl, h12⟩ := zrD_some h11
  obtain ⟨za9, e9, h13⟩ := zrO_some h12
  obtain ⟨zc10, rfl, h14⟩ := zrA1_some h13
  obtain ⟨q2, rfl, h15⟩ := zrI_some h14
  obtain ⟨za11, e10, h16⟩ := zrO_some h15
  obtain ⟨zc12, rfl, h17⟩ := zrA1_some h16
  obtain ⟨q3, rfl, h18⟩ := zrI_some h17
  obtain ⟨zq13, zw14, rfl, h19⟩ := zrL_some h18
  obtain ⟨zk15, rfl, h20⟩ := zrKey_some h19
  obtain ⟨zl16, rfl, h21⟩ := zrC_some h20
  obtain ⟨zc17, zr18, rfl, h22⟩ := zrL_some h21
  obtain ⟨rfl, h23⟩ := zrSl_some h22
  obtain ⟨rfl, h24⟩ := zrN_some h23
  obtain ⟨zq19, zw20, rfl, h25⟩ := zrL_some h24
  obtain ⟨zk21, rfl, h26⟩ := zrKey_some h25
  obtain ⟨zl22, rfl, h27⟩ := zrC_some h26
  obtain ⟨zc23, zr24, rfl, h28⟩ := zrL_some h27
  obtain ⟨rfl, h29⟩ := zrNil_some h28
  obtain ⟨rfl, h30⟩ := zrN_some h29
  obtain ⟨zq25, zw26, rfl, h31⟩ := zrL_some h30
  obtain ⟨zk27, rfl, h32⟩ := zrKey_some h31
  obtain ⟨q4, rfl, h33⟩ := zrR_some h32
  obtain ⟨rfl, h34⟩ := zrN_some h33
  have h := Option.some.inj h34
  have hu := congrArg Prod.fst h
  have hv := congrArg Prod.snd h
  dsimp only at hu hv
  subst hu
  subst hv
  exact ⟨rfl, (tm_fill (hj rfl) (Lv := [(1, .one (.v false (.int .i64 q0))), (4, .one (.p 0 0)), (5, .one (.p 1 0)), (8, .one (.d false false (.list (.prod (.int .i64) (.int .i64))) q1)), (9, .one (.v false (.int .i64 q2))), (10, .one (.v false (.int .i64 q3)))]) (by kernel_rfl) ⟨e1, e4, e5, e8, e9, e10, trivial⟩).trans (by kernel_rfl), rfl⟩
theorem rgo_read_ok (st : Stt) (u : rgo_U) (v : ctb0_U) (h : rgo_read st = some (u, v)) : rgo_cok st = true ∧ staysA [⟨980, none, 1, 0, 56, (.prod (.int .i64) (.list (.prod (.int .i64) (.int .i64))))⟩] [1, 0, 980] st.own = true ∧ rgo_can st = rgo_St u v := by
  obtain ⟨h1, h2, h3⟩ := rgo_rd_ok (fun hb => by rw [Bool.and_eq_true, Bool.and_eq_true] at hb; exact hb.2.2) h
  rw [Bool.and_eq_true, Bool.and_eq_true] at h1
  refine ⟨h1.1, h1.2.1, ?_⟩
  have e : rgo_can st = ⟨(rgo_can st).tm, (rgo_can st).own, 1005⟩ := by kernel_rfl
  rw [e, h2, h3]
  rfl
noncomputable def rgo_cond (u : rgo_U) (v : ctb0_U) : Bool := runC (rgo_step u) v
noncomputable def rgo_g (u : rgo_U) (v : ctb0_U) : Nat × ctb0_U := runG (rgo_step u) v
theorem rgo_hg : ∀ (u : rgo_U) (v : ctb0_U), rgo_cond u v = true → loopN (rgo_step u) ((fun u v => runF (rgo_step u) v) u v) v = some (rgo_g u v) := by
  exact fun u v h => run_hg h
noncomputable def rgo_m (st : Stt) : Option (Tr (Ex × Stt)) := sumM rgo_read rgo_cond rgo_St rgo_g [(0, .exit 0)] st
noncomputable def moC_L51 : FuncId → Loops := addL 82 [0, 1, 0, 1, 1] rgo_m moA_L57
set_option maxRecDepth 100000 in
set_option maxHeartbeats 4000000 in
theorem moC_L51_ok : LoopsOK Try.prog moC_L51 :=
  loop_sumF (body := (bodyOf Try.prog 82)) (c := (loopOf (bodyOf Try.prog 82) [1, 1, 0, 1, 0])) (kinds := [.exit 0]) (allow := [(0, .exit 0)]) (St := rgo_St) (step := rgo_step) (W := [0, 2, 3, 6, 7, 11, 12, 13, 14, 15, 16, 17, 18, 19, 20, 21, 22, 23, 24, 25, 26, 27, 28, 29]) (As := [⟨980, none, 1, 0, 56, (.prod (.int .i64) (.list (.prod (.int .i64) (.int .i64))))⟩]) (ks := [1, 0, 980]) (dd := [1022]) (nx := 1005) (n := 100000) (g := rgo_g) (cond := rgo_cond) (fuel := (fun u v => runF (rgo_step u) v)) (read := rgo_read) (by kernel_rfl) (moB_S52_ok) (moA_L57_ok) 7 ⟨Try.f82, by kernel_rfl, by kernel_rfl⟩ (by kernel_rfl) (by kernel_rfl) (by kernel_rfl) rgo_step_eq rgo_hg rgo_read_ok
theorem el_w (l : List Rl) (i : Nat) : el_lii l (i : Int) = l.getD i [] := elm_nat (.list (.prod (.int .i64) (.int .i64))) l i
theorem rgo_run {W : List Rl} {f : Int} (h : rgOk W f = true) : rgo_cond (f, W, (W.length : Int)) (0, []) = true ∧ rgo_g (f, W, (W.length : Int)) (0, []) = (0, ((W.length : Int), rgN (fun i => W.getD i []) f W.length)) := by
  unfold rgOk at h
  rw [Bool.and_eq_true, Bool.and_eq_true, decide_eq_true_eq, decide_eq_true_eq, decide_eq_true_eq] at h
  obtain ⟨hn, f1, f2⟩ := h
  have R1 := run_steps (step := rgo_step (f, W, (W.length : Int))) (St := fun j => ((j : Int), rgN (fun i => W.getD i []) f j)) (n := W.length) (t := (0, ((W.length : Int), rgN (fun i => W.getD i []) f W.length))) (by
    simp only [rgo_step, Tr.val, Int.lt_irrefl, decide_false, cond_false]) W.length 0 (Nat.zero_add _) (fun j _ hj => by
    have hl := rgN_len (fun i => W.getD i []) f j
    obtain ⟨r1, r2⟩ := room32 (n := (rgN (fun i => W.getD i []) f j).length + 1) (by omega)
    have w1 : IntKind.wrap .i64 (f + (j : Int)) = f + (j : Int) := wid (by omega) (by omega)
    have lp : decide (((W.getD j []).length : Int) > (0 : Int)) = decide (0 < (W.getD j []).length) := by rw [Bool.eq_iff_iff, decide_eq_true_eq, decide_eq_true_eq]; omega
    have er : rgN (fun i => W.getD i []) f (j + 1) = rgN (fun i => W.getD i []) f j ++ emit (f + (j : Int)) (W.getD j []) := rfl
    rw [er]
    simp only [rgo_step, Tr.val, lt_t hj, nn_t, el_w, lp, r1, r2, w1, wi1 hj (show (W.length : Int) ≤ 9223372036854775806 by omega), Bool.and_self, cond_true]
    unfold emit
    cases decide (0 < (W.getD j []).length)
    · simp only [cond_false, List.append_nil]
    · rfl)
  exact R1
set_option maxRecDepth 100000 in
theorem rgoc_tree (W : (Ty.list (.list (.prod (.int .i64) (.int .i64)))).den) (f : Int) : evalF Try.prog moB_S52 (opens []) moC_L51 9 82 [.one (.d false false (.list (.prod (.int .i64) (.int .i64))) W), .one (.v false (.int .i64 f))] = .br (((rgo_cond (f, W, (↑(List.length W) : Int)) ((0 : Int), [])) && (Nat.beq (Prod.fst (rgo_g (f, W, (↑(List.length W) : Int)) ((0 : Int), []))) (0 : Nat)))) (.ret (.ag [.d false false (.prod (.int .i64) (.list (.prod (.int .i64) (.int .i64)))) (Prod.snd (Prod.snd (rgo_g (f, W, (↑(List.length W) : Int)) ((0 : Int), []))))])) (.bad 116) := by kernel_rfl
theorem rgoc_val (W : (Ty.list (.list (.prod (.int .i64) (.int .i64)))).den) (f : Int) (hc : (rgOk W f) = true) : (.br (((rgo_cond (f, W, (↑(List.length W) : Int)) ((0 : Int), [])) && (Nat.beq (Prod.fst (rgo_g (f, W, (↑(List.length W) : Int)) ((0 : Int), []))) (0 : Nat)))) (.ret (.ag [.d false false (.prod (.int .i64) (.list (.prod (.int .i64) (.int .i64)))) (Prod.snd (Prod.snd (rgo_g (f, W, (↑(List.length W) : Int)) ((0 : Int), []))))])) (.bad 116) : Tr AV).val = some (.ag [.d false false (.prod (.int .i64) (.list (.prod (.int .i64) (.int .i64)))) (rgN (fun i => W.getD i []) f W.length)]) := by
  obtain ⟨K, rfl⟩ : ∃ K : List Rl, K = W := ⟨W, rfl⟩
  obtain ⟨v1, v2⟩ := rgo_run (W := K) hc
  show cond _ _ _ = _
  simp only [v1, v2, Nat.beq, Bool.and_self, cond_true, Tr.val]
noncomputable def rgoc_g : List AV → Option (Tr AV)
  | [.one (.d _ _ (.list (.prod (.int .i64) (.int .i64))) W), .one (.v _ (.int .i64 f))] => some (.br (rgOk W f) (.ret (.ag [.d false false (.prod (.int .i64) (.list (.prod (.int .i64) (.int .i64)))) (rgN (fun i => W.getD i []) f W.length)])) (.bad 900))
  | _ => none
set_option maxHeartbeats 4000000 in
theorem rgoc_ok : FunOK Try.prog 82 rgoc_g := by
  refine fun_ok (by kernel_rfl) (moB_S52_ok) (moC_L51_ok) 9 (On := (opens [])) (fun args t h => ?_)
  unfold rgoc_g at h
  split at h
  · rename_i _ _ W _ f
    simp only [Option.some.injEq] at h
    subst h
    refine ⟨[.one (.d false false (.list (.prod (.int .i64) (.int .i64))) W), .one (.v false (.int .i64 f))], rfl, fun fr w us h => h, fun r hr => ?_⟩
    obtain ⟨hc, hr⟩ := br_bad hr
    simp only [Tr.val, Option.some.injEq] at hr
    subst hr
    rw [rgoc_tree]
    exact rgoc_val W f hc
  · cases h
noncomputable def moC_S52 : Sums := addS 82 rgoc_g moB_S52
theorem moC_S52_ok : SumOK Try.prog moC_S52 := addS_ok (rgoc_ok) (moB_S52_ok)
abbrev wiD1_U : Type := (Ty.list (.list (.prod (.int .i64) (.int .i64)))).den × Int × Int × Int × Int
abbrev wiD1_V : Type := Int × (Ty.list (.list (.prod (.int .i64) (.int .i64)))).den
noncomputable def wiD1_St (u : wiD1_U) (v : wiD1_V) : Stt := ⟨[.one .junk, .one (.d false false (.list (.prod (.int .i64) (.int .i64))) u.1), .one (.v false (.int .i64 u.2.1)), .one (.p 0 0), .one .junk, .one .junk, .one (.v false (Value.slice none (0 : Nat) (0 : Nat))), .one (.v false (.int .i64 u.2.2.1)), .one (.v false (.int .i64 u.2.2.2.1)), .one (.s false 960 0 (none)), .one (.v false (.int .i64 v.1)), .one .junk, .one .junk, .one .junk, .one .junk, .one .junk, .one .junk, .one .junk, .one .junk, .one .junk, .one .junk, .one .junk, .one .junk, .one .junk, .one .junk, .one .junk, .one .junk, .one .junk, .one .junk, .one .junk, .one .junk, .one .junk, .one .junk, .one .junk, .one .junk, .one .junk, .one .junk, .one .junk, .one .junk, .one .junk, .one .junk, .one .junk, .one .junk, .one .junk, .one .junk, .one .junk, .one .junk, .one .junk], [(0, .cells [.fn 79 [], .fn 80 [], .v false (.int .i64 u.2.2.2.2)]), (960, .row true false false 54 (.list (.prod (.int .i64) (.int .i64))) v.2)], 2014⟩
noncomputable def wiD1_step (u : wiD1_U) (v : wiD1_V) : Tr (wiD1_V ⊕ (Nat × wiD1_V)) :=
  match u, v with
  | (q0, _, _, q3, _), (q4, q6) => .br (decide (IntKind.wrap .i64 (q4 + q3) < (↑(List.length q0) : Int))) (.br (decide ((0 : Int) ≤ q4) && decide (q4 < (↑(List.length q0) : Int))) (.br (decide ((0 : Int) ≤ IntKind.wrap .i64 (q4 + q3)) && decide (IntKind.wrap .i64 (q4 + q3) < (↑(List.length q0) : Int))) (.br ((decide (List.length (el_lii q0 q4) ≤ (10000 : Nat)) && decide (List.length (el_lii q0 (IntKind.wrap .i64 (q4 + q3))) ≤ (10000 : Nat)))) (.br (decide ((List.length q6 + (1 : Nat)) * (24 : Nat) ≤ maxNew) && decide (List.length q6 + (1 : Nat) ≤ maxLen)) (.ret (.inl (IntKind.wrap .i64 (q4 + (1 : Int)), q6 ++ [chL (el_lii q0 q4) (el_lii q0 (IntKind.wrap .i64 (q4 + q3))) (2 : Int)]))) (.bad 71)) (.bad 116)) (.bad 29)) (.bad 29)) (.ret (.inr (0, (q4, q6))))
set_option maxRecDepth 100000 in
set_option maxHeartbeats 4000000 in
theorem wiD1_step_eq : ∀ (u : wiD1_U) (v : wiD1_V), (evalC Try.prog (evalB Try.prog moC_S52 (opens [81]) moC_L51 7).1 (evalB Try.prog moC_S52 (opens [81]) moC_L51 7).2 (opens [81]) (moC_L51 83) 100000 (0 :: [0, 1, 0, 1, 1, 0, 1, 0, 0, 1, 0, 1]) (loopOf (bodyOf Try.prog 83) [1, 0, 1, 0, 0, 1, 0, 1, 1, 0, 1, 0]) (wiD1_St u v) []).bind (finF [0, 4, 5, 11, 12, 13, 14, 15, 16, 17, 18, 19, 20, 21, 22, 23, 24, 25, 26, 27, 28, 29, 30, 31, 32, 33, 34, 35, 36, 37, 38, 39, 40, 41, 42, 43, 44, 45, 46, 47] [⟨960, some 9, 0, 0, 54, (.list (.prod (.int .i64) (.int .i64)))⟩] [0, 960] [2035] 2014) = (wiD1_step u v).bind (outA (wiD1_St u) [.exit 2]) := by
  rintro ⟨q0, q1, q2, q3, q5⟩ ⟨q4, q6⟩
  kernel_rfl
noncomputable def wiD1_rd (b : Bool) (o1 : Option AV) (o2 : Option AV) (o3 : Option AV) (o6 : Option AV) (o7 : Option AV) (o8 : Option AV) (o9 : Option AV) (o10 : Option AV) (own : Own) : Option (wiD1_U × wiD1_V) := zrT b <| zrO o1 fun za1 => zrA1 za1 fun zc2 => zrD (.list (.prod (.int .i64) (.int .i64))) zc2 fun q0 => zrO o2 fun za3 => zrA1 za3 fun zc4 => zrI .i64 zc4 fun q1 => zrO o3 fun za5 => zrA1 za5 fun zc6 => zrP 0 0 zc6 <| zrO o6 fun za7 => zrA1 za7 fun zc8 => zrNil zc8 <| zrO o7 fun za9 => zrA1 za9 fun zc10 => zrI .i64 zc10 fun q2 => zrO o8 fun za11 => zrA1 za11 fun zc12 => zrI .i64 zc12 fun q3 => zrO o9 fun za13 => zrA1 za13 fun zc14 => zrSl 960 0 (none) zc14 <| zrO o10 fun za15 => zrA1 za15 fun zc16 => zrI .i64 zc16 fun q4 => zrL own fun zq17 zw18 => zrKey 0 zq17 fun zk19 => zrC zk19 fun zl20 => zrL zl20 fun zc21 zr22 => zrF 79 [] zc21 <| zrL zr22 fun zc23 zr24 => zrF 80 [] zc23 <| zrL zr24 fun zc25 zr26 => zrI .i64 zc25 fun q5 => zrN zr26 <| zrL zw18 fun zq27 zw28 => zrKey 960 zq27 fun zk29 => zrR true 54 (.list (.prod (.int .i64) (.int .i64))) zk29 fun q6 => zrN zw28 <| some ((q0, q1, q2, q3, q5), (q4, q6))
noncomputable def wiD1_can (st : Stt) : Stt := canA [0, 4, 5, 11, 12, 13, 14, 15, 16, 17, 18, 19, 20, 21, 22, 23, 24, 25, 26, 27, 28, 29, 30, 31, 32, 33, 34, 35, 36, 37, 38, 39, 40, 41, 42, 43, 44, 45, 46, 47] [⟨960, some 9, 0, 0, 54, (.list (.prod (.int .i64) (.int .i64)))⟩] [0, 960] [2035] 2014 st
noncomputable def wiD1_cok (st : Stt) : Bool := canAok [0, 4, 5, 11, 12, 13, 14, 15, 16, 17, 18, 19, 20, 21, 22, 23, 24, 25, 26, 27, 28, 29, 30, 31, 32, 33, 34, 35, 36, 37, 38, 39, 40, 41, 42, 43, 44, 45, 46, 47] [⟨960, some 9, 0, 0, 54, (.list (.prod (.int .i64) (.int .i64)))⟩] [0, 960] [2035] 2014 st
noncomputable def wiD1_read (st : Stt) : Option (wiD1_U × wiD1_V) := wiD1_rd (wiD1_cok st && (staysA [⟨960, some 9, 0, 0, 54, (.list (.prod (.int .i64) (.int .i64)))⟩] [0, 960] st.own && juAll [0, 4, 5, 11, 12, 13, 14, 15, 16, 17, 18, 19, 20, 21, 22, 23, 24, 25, 26, 27, 28, 29, 30, 31, 32, 33, 34, 35, 36, 37, 38, 39, 40, 41, 42, 43, 44, 45, 46, 47] (wiD1_can st).tm 48)) (wiD1_can st).tm[1]? (wiD1_can st).tm[2]? (wiD1_can st).tm[3]? (wiD1_can st).tm[6]? (wiD1_can st).tm[7]? (wiD1_can st).tm[8]? (wiD1_can st).tm[9]? (wiD1_can st).tm[10]? (wiD1_can st).own
set_option maxRecDepth 100000 in
set_option maxHeartbeats 4000000 in
theorem wiD1_rd_ok {b : Bool} {tm : List AV} {own : Own} {u : wiD1_U} {v : wiD1_V} (hj : b = true → juAll [0, 4, 5, 11, 12, 13, 14, 15, 16, 17, 18, 19, 20, 21, 22, 23, 24, 25, 26, 27, 28, 29, 30, 31, 32, 33, 34, 35, 36, 37, 38, 39, 40, 41, 42, 43, 44, 45, 46, 47] tm 48 = true) (h : wiD1_rd b tm[1]? tm[2]? tm[3]? tm[6]? tm[7]? tm[8]? tm[9]? tm[10]? own = some (u, v)) : b = true ∧ tm = (wiD1_St u v).tm ∧ own = (wiD1_St u v).own := by
  unfold wiD1_rd at h
  obtain ⟨rfl, h0⟩ := zrT_some h
  obtain ⟨za1, e1, h1⟩ := zrO_some h0
  obtain ⟨zc2, rfl, h2⟩ := zrA1_some h1
  obtain ⟨q0, rfl, h3⟩ := zrD_some h2
  obtain ⟨za3, e2, h4⟩ := zrO_some h3
  obtain ⟨zc4, rfl, h5⟩ := zrA1_some h4
  obtain ⟨q1, rfl, h6⟩ := zrI_some h5
  obtain ⟨za5, e3, h7⟩ := zrO_some h6
  obtain ⟨zc6, rfl, h8⟩ := zrA1_some h7
  obtain ⟨rfl, h9⟩ := zrP_some h8
  obtain ⟨za7, e6, h10⟩ := zrO_some h9
  obtain ⟨zc8, rfl, h11⟩ := zrA1_some h10
  obtain ⟨rfl, h12⟩ := zrNil_some h11
  obtain ⟨za9, e7, h13⟩ := zrO_some h12
  obtain ⟨zc10, rfl, h14⟩ := zrA1_some h13
  obtain ⟨q2, rfl, h15⟩ := zrI_some h14
  obtain ⟨za11, e8, h16⟩ := zrO_some h15
  obtain ⟨zc12, rfl, h17⟩ := zrA1_some h16
  obtain ⟨q3, rfl, h18⟩ := zrI_some h17
  obtain ⟨za13, e9, h19⟩ := zrO_some h18
  obtain ⟨zc14, rfl, h20⟩ := zrA1_some h19
  obtain ⟨rfl, h21⟩ := zrSl_some h20
  obtain ⟨za15, e10, h22⟩ := zrO_some h21
  obtain ⟨zc16, rfl, h23⟩ := zrA1_some h22
  obtain ⟨q4, rfl, h24⟩ := zrI_some h23
  obtain ⟨zq17, zw18, rfl, h25⟩ := zrL_some h24
  obtain ⟨zk19, rfl, h26⟩ := zrKey_some h25
  obtain ⟨zl20, rfl, h27⟩ := zrC_some h26
  obtain ⟨zc21, zr22, rfl, h28⟩ := zrL_some h27
  obtain ⟨rfl, h29⟩ := zrF_some h28
  obtain ⟨zc23, zr24, rfl, h30⟩ := zrL_some h29
  obtain ⟨rfl, h31⟩ := zrF_some h30
  obtain ⟨zc25, zr26, rfl, h32⟩ := zrL_some h31
  obtain ⟨q5, rfl, h33⟩ := zrI_some h32
  obtain ⟨rfl, h34⟩ := zrN_some h33
  obtain ⟨zq27, zw28, rfl, h35⟩ := zrL_some h34
  obtain ⟨zk29, rfl, h36⟩ := zrKey_some h35
  obtain ⟨q6, rfl, h37⟩ := zrR_some h36
  obtain ⟨rfl, h38⟩ := zrN_some h37
  have h := Option.some.inj h38
  have hu := congrArg Prod.fst h
  have hv := congrArg Prod.snd h
  dsimp only at hu hv
  subst hu
  subst hv
  exact ⟨rfl, (tm_fill (hj rfl) (Lv := [(1, .one (.d false false (.list (.prod (.int .i64) (.int .i64))) q0)), (2, .one (.v false (.int .i64 q1))), (3, .one (.p 0 0)), (6, .one (.v false (Value.slice none (0 : Nat) (0 : Nat)))), (7, .one (.v false (.int .i64 q2))), (8, .one (.v false (.int .i64 q3))), (9, .one (.s false 960 0 (none))), (10, .one (.v false (.int .i64 q4)))]) (by kernel_rfl) ⟨e1, e2, e3, e6, e7, e8, e9, e10, trivial⟩).trans (by kernel_rfl), rfl⟩
theorem wiD1_read_ok (st : Stt) (u : wiD1_U) (v : wiD1_V) (h : wiD1_read st = some (u, v)) : wiD1_cok st = true ∧ staysA [⟨960, some 9, 0, 0, 54, (.list (.prod (.int .i64) (.int .i64)))⟩] [0, 960] st.own = true ∧ wiD1_can st = wiD1_St u v := by
  obtain ⟨h1, h2, h3⟩ := wiD1_rd_ok (fun hb => by rw [Bool.and_eq_true, Bool.and_eq_true] at hb; exact hb.2.2) h
  rw [Bool.and_eq_true, Bool.and_eq_true] at h1
  refine ⟨h1.1, h1.2.1, ?_⟩
  have e : wiD1_can st = ⟨(wiD1_can st).tm, (wiD1_can st).own, 2014⟩ := by kernel_rfl
  rw [e, h2, h3]
  rfl
noncomputable def wiD1_cond (u : wiD1_U) (v : wiD1_V) : Bool := runC (wiD1_step u) v
noncomputable def wiD1_g (u : wiD1_U) (v : wiD1_V) : Nat × wiD1_V := runG (wiD1_step u) v
theorem wiD1_hg : ∀ (u : wiD1_U) (v : wiD1_V), wiD1_cond u v = true → loopN (wiD1_step u) ((fun u v => runF (wiD1_step u) v) u v) v = some (wiD1_g u v) := by
  exact fun u v h => run_hg h
noncomputable def wiD1_m (st : Stt) : Option (Tr (Ex × Stt)) := sumM wiD1_read wiD1_cond wiD1_St wiD1_g [(0, .exit 2)] st
noncomputable def moC_L53 : FuncId → Loops := addL 83 [0, 1, 0, 1, 1, 0, 1, 0, 0, 1, 0, 1] wiD1_m moC_L51
set_option maxRecDepth 100000 in
set_option maxHeartbeats 4000000 in
theorem moC_L53_ok : LoopsOK Try.prog moC_L53 :=
  loop_sumF (body := (bodyOf Try.prog 83)) (c := (loopOf (bodyOf Try.prog 83) [1, 0, 1, 0, 0, 1, 0, 1, 1, 0, 1, 0])) (kinds := [.exit 2]) (allow := [(0, .exit 2)]) (St := wiD1_St) (step := wiD1_step) (W := [0, 4, 5, 11, 12, 13, 14, 15, 16, 17, 18, 19, 20, 21, 22, 23, 24, 25, 26, 27, 28, 29, 30, 31, 32, 33, 34, 35, 36, 37, 38, 39, 40, 41, 42, 43, 44, 45, 46, 47]) (As := [⟨960, some 9, 0, 0, 54, (.list (.prod (.int .i64) (.int .i64)))⟩]) (ks := [0, 960]) (dd := [2035]) (nx := 2014) (n := 100000) (g := wiD1_g) (cond := wiD1_cond) (fuel := (fun u v => runF (wiD1_step u) v)) (read := wiD1_read) (by kernel_rfl) (moC_S52_ok) (moC_L51_ok) 7 ⟨Try.f83, by kernel_rfl, by kernel_rfl⟩ (by kernel_rfl) (by kernel_rfl) (by kernel_rfl) wiD1_step_eq wiD1_hg wiD1_read_ok
abbrev wiD2_U : Type := Int × Int × Int × Int × (Ty.list (.list (.prod (.int .i64) (.int .i64)))).den
noncomputable def wiD2_St (u : wiD2_U) (v : wiD1_V) : Stt := ⟨[.one .junk, .one (.s false 980 0 (none)), .one (.v false (.int .i64 u.1)), .one (.p 0 0), .one .junk, .one .junk, .one (.v false (Value.slice none (0 : Nat) (0 : Nat))), .one (.v false (.int .i64 u.2.1)), .one (.v false (.int .i64 u.2.2.1)), .one (.s false 940 0 (none)), .one (.v false (.int .i64 v.1)), .one .junk, .one .junk, .one .junk, .one .junk, .one .junk, .one .junk, .one .junk, .one .junk, .one .junk, .one .junk, .one .junk, .one .junk, .one .junk, .one .junk, .one .junk, .one .junk, .one .junk, .one .junk, .one .junk, .one .junk, .one .junk, .one .junk, .one .junk, .one .junk, .one .junk, .one .junk, .one .junk, .one .junk, .one .junk, .one .junk, .one .junk, .one .junk, .one .junk, .one .junk, .one .junk, .one .junk, .one .junk], [(0, .cells [.fn 79 [], .fn 80 [], .v false (.int .i64 u.2.2.2.1)]), (960, .dead), (980, .row true false false 54 (.list (.prod (.int .i64) (.int .i64))) u.2.2.2.2), (940, .row true false false 54 (.list (.prod (.int .i64) (.int .i64))) v.2)], 4031⟩
noncomputable def wiD2_step (u : wiD2_U) (v : wiD1_V) : Tr (wiD1_V ⊕ (Nat × wiD1_V)) :=
  match u, v with
  | (_, _, q2, _, q5), (q3, q6) => .br (decide (IntKind.wrap .i64 (q3 + q2) < (↑(List.length q5) : Int))) (.br (decide ((0 : Int) ≤ q3) && decide (q3 < (↑(List.length q5) : Int))) (.br (decide (Int.toNat q3 < List.length q5)) (.br (decide ((0 : Int) ≤ IntKind.wrap .i64 (q3 + q2)) && decide (IntKind.wrap .i64 (q3 + q2) < (↑(List.length q5) : Int))) (.br (decide (Int.toNat (IntKind.wrap .i64 (q3 + q2)) < List.length q5)) (.br ((decide (List.length (el_lii q5 q3) ≤ (10000 : Nat)) && decide (List.length (el_lii q5 (IntKind.wrap .i64 (q3 + q2))) ≤ (10000 : Nat)))) (.br (decide ((List.length q6 + (1 : Nat)) * (24 : Nat) ≤ maxNew) && decide (List.length q6 + (1 : Nat) ≤ maxLen)) (.ret (.inl (IntKind.wrap .i64 (q3 + (1 : Int)), q6 ++ [chL (el_lii q5 q3) (el_lii q5 (IntKind.wrap .i64 (q3 + q2))) (2 : Int)]))) (.bad 71)) (.bad 116)) (.bad 12)) (.bad 31)) (.bad 12)) (.bad 31)) (.ret (.inr (0, (q3, q6))))
set_option maxRecDepth 100000 in
set_option maxHeartbeats 4000000 in
theorem wiD2_step_eq : ∀ (u : wiD2_U) (v : wiD1_V), (evalC Try.prog (evalB Try.prog moC_S52 (opens [81]) moC_L53 7).1 (evalB Try.prog moC_S52 (opens [81]) moC_L53 7).2 (opens [81]) (moC_L53 83) 100000 (0 :: [0, 1, 0, 1, 1, 0, 1, 0, 0, 1, 0, 1]) (loopOf (bodyOf Try.prog 83) [1, 0, 1, 0, 0, 1, 0, 1, 1, 0, 1, 0]) (wiD2_St u v) []).bind (finF [0, 4, 5, 11, 12, 13, 14, 15, 16, 17, 18, 19, 20, 21, 22, 23, 24, 25, 26, 27, 28, 29, 30, 31, 32, 33, 34, 35, 36, 37, 38, 39, 40, 41, 42, 43, 44, 45, 46, 47] [⟨940, some 9, 0, 0, 54, (.list (.prod (.int .i64) (.int .i64)))⟩] [0, 960, 980, 940] [960, 4052] 4031) = (wiD2_step u v).bind (outA (wiD2_St u) [.exit 2]) := by
  rintro ⟨q0, q1, q2, q4, q5⟩ ⟨q3, q6⟩
  kernel_rfl
noncomputable def wiD2_rd (b : Bool) (o1 : Option AV) (o2 : Option AV) (o3 : Option AV) (o6 : Option AV) (o7 : Option AV) (o8 : Option AV) (o9 : Option AV) (o10 : Option AV) (own : Own) : Option (wiD2_U × wiD1_V) := zrT b <| zrO o1 fun za1 => zrA1 za1 fun zc2 => zrSl 980 0 (none) zc2 <| zrO o2 fun za3 => zrA1 za3 fun zc4 => zrI .i64 zc4 fun q0 => zrO o3 fun za5 => zrA1 za5 fun zc6 => zrP 0 0 zc6 <| zrO o6 fun za7 => zrA1 za7 fun zc8 => zrNil zc8 <| zrO o7 fun za9 => zrA1 za9 fun zc10 => zrI .i64 zc10 fun q1 => zrO o8 fun za11 => zrA1 za11 fun zc12 => zrI .i64 zc12 fun q2 => zrO o9 fun za13 => zrA1 za13 fun zc14 => zrSl 940 0 (none) zc14 <| zrO o10 fun za15 => zrA1 za15 fun zc16 => zrI .i64 zc16 fun q3 => zrL own fun zq17 zw18 => zrKey 0 zq17 fun zk19 => zrC zk19 fun zl20 => zrL zl20 fun zc21 zr22 => zrF 79 [] zc21 <| zrL zr22 fun zc23 zr24 => zrF 80 [] zc23 <| zrL zr24 fun zc25 zr26 => zrI .i64 zc25 fun q4 => zrN zr26 <| zrL zw18 fun zq27 zw28 => zrKey 960 zq27 fun zk29 => zrX zk29 <| zrL zw28 fun zq30 zw31 => zrKey 980 zq30 fun zk32 => zrR true 54 (.list (.prod (.int .i64) (.int .i64))) zk32 fun q5 => zrL zw31 fun zq33 zw34 => zrKey 940 zq33 fun zk35 => zrR true 54 (.list (.prod (.int .i64) (.int .i64))) zk35 fun q6 => zrN zw34 <| some ((q0, q1, q2, q4, q5), (q3, q6))
noncomputable def wiD2_can (st : Stt) : Stt := canA [0, 4, 5, 11, 12, 13, 14, 15, 16, 17, 18, 19, 20, 21, 22, 23, 24, 25, 26, 27, 28, 29, 30, 31, 32, 33, 34, 35, 36, 37, 38, 39, 40, 41, 42, 43, 44, 45, 46, 47] [⟨940, some 9, 0, 0, 54, (.list (.prod (.int .i64) (.int .i64)))⟩] [0, 960, 980, 940] [960, 4052] 4031 st
noncomputable def wiD2_cok (st : Stt) : Bool := canAok [0, 4, 5, 11, 12, 13, 14, 15, 16, 17, 18, 19, 20, 21, 22, 23, 24, 25, 26, 27, 28, 29, 30, 31, 32, 33, 34, 35, 36, 37, 38, 39, 40, 41, 42, 43, 44, 45, 46, 47] [⟨940, some 9, 0, 0, 54, (.list (.prod (.int .i64) (.int .i64)))⟩] [0, 960, 980, 940] [960, 4052] 4031 st
noncomputable def wiD2_read (st : Stt) : Option (wiD2_U × wiD1_V) := wiD2_rd (wiD2_cok st && (staysA [⟨940, some 9, 0, 0, 54, (.list (.prod (.int .i64) (.int .i64)))⟩] [0, 960, 980, 940] st.own && juAll [0, 4, 5, 11, 12, 13, 14, 15, 16, 17, 18, 19, 20, 21, 22, 23, 24, 25, 26, 27, 28, 29, 30, 31, 32, 33, 34, 35, 36, 37, 38, 39, 40, 41, 42, 43, 44, 45, 46, 47] (wiD2_can st).tm 48)) (wiD2_can st).tm[1]? (wiD2_can st).tm[2]? (wiD2_can st).tm[3]? (wiD2_can st).tm[6]? (wiD2_can st).tm[7]? (wiD2_can st).tm[8]? (wiD2_can st).tm[9]? (wiD2_can st).tm[10]? (wiD2_can st).own
set_option maxRecDepth 100000 in
set_option maxHeartbeats 4000000 in
theorem wiD2_rd_ok {b : Bool} {tm : List AV} {own : Own} {u : wiD2_U} {v : wiD1_V} (hj : b = true → juAll [0, 4, 5, 11, 12, 13, 14, 15, 16, 17, 18, 19, 20, 21, 22, 23, 24, 25, 26, 27, 28, 29, 30, 31, 32, 33, 34, 35, 36, 37, 38, 39, 40, 41, 42, 43, 44, 45, 46, 47] tm 48 = true) (h : wiD2_rd b tm[1]? tm[2]? tm[3]? tm[6]? tm[7]? tm[8]? tm[9]? tm[10]? own = some (u, v)) : b = true ∧ tm = (wiD2_St u v).tm ∧ own = (wiD2_St u v).own := by
  unfold wiD2_rd at h
  obtain ⟨rfl, h0⟩ := zrT_some h
  obtain ⟨za1, e1, h1⟩ := zrO_some h0
  obtain ⟨zc2, rfl, h2⟩ := zrA1_some h1
  obtain ⟨rfl, h3⟩ := zrSl_some h2
  obtain ⟨za3, e2, h4⟩ := zrO_some h3
  obtain ⟨zc4, rfl, h5⟩ := zrA1_some h4
  obtain ⟨q0, rfl, h6⟩ := zrI_some h5
  obtain ⟨za5, e3, h7⟩ := zrO_some h6
  obtain ⟨zc6, rfl, h8⟩ := zrA1_some h7
  obtain ⟨rfl, h9⟩ := zrP_some h8
  obtain ⟨za7, e6, h10⟩ := zrO_some h9
  obtain ⟨zc8, rfl, h11⟩ := zrA1_some h10
  obtain ⟨rfl, h12⟩ := zrNil_some h11
  obtain ⟨za9, e7, h13⟩ := zrO_some h12
  obtain ⟨zc10, rfl, h14⟩ := zrA1_some h13
  obtain ⟨q1, rfl, h15⟩ := zrI_some h14
  obtain ⟨za11, e8, h16⟩ := zrO_some h15
  obtain ⟨zc12, rfl, h17⟩ := zrA1_some h16
  obtain ⟨q2, rfl, h18⟩ := zrI_some h17
  obtain ⟨za13, e9, h19⟩ := zrO_some h18
  obtain ⟨zc14, rfl, h20⟩ := zrA1_some h19
  obtain ⟨rfl, h21⟩ := zrSl_some h20
  obtain ⟨za15, e10, h22⟩ := zrO_some h21
  obtain ⟨zc16, rfl, h23⟩ := zrA1_some h22
  obtain ⟨q3, rfl, h24⟩ := zrI_some h23
  obtain ⟨zq17, zw18, rfl, h25⟩ := zrL_some h24
  obtain ⟨zk19, rfl, h26⟩ := zrKey_some h25
  obtain ⟨zl20, rfl, h27⟩ := zrC_some h26
  obtain ⟨zc21, zr22, rfl, h28⟩ := zrL_some h27
  obtain ⟨rfl, h29⟩ := zrF_some h28
  obtain ⟨zc23, zr24, rfl, h30⟩ := zrL_some h29
  obtain ⟨rfl, h31⟩ := zrF_some h30
  obtain ⟨zc25, zr26, rfl, h32⟩ := zrL_some h31
  obtain ⟨q4, rfl, h33⟩ := zrI_some h32
  obtain ⟨rfl, h34⟩ := zrN_some h33
  obtain ⟨zq27, zw28, rfl, h35⟩ := zrL_some h34
  obtain ⟨zk29, rfl, h36⟩ := zrKey_some h35
  obtain ⟨rfl, h37⟩ := zrX_some h36
  obtain ⟨zq30, zw31, rfl, h38⟩ := zrL_some h37
  obtain ⟨zk32, rfl, h39⟩ := zrKey_some h38
  obtain ⟨q5, rfl, h40⟩ := zrR_some h39
  obtain ⟨zq33, zw34, rfl, h41⟩ := zrL_some h40
  obtain ⟨zk35, rfl, h42⟩ := zrKey_some h41
  obtain ⟨q6, rfl, h43⟩ := zrR_some h42
  obtain ⟨rfl, h44⟩ := zrN_some h43
  have h := Option.some.inj h44
  have hu := congrArg Prod.fst h
  have hv := congrArg Prod.snd h
  dsimp only at hu hv
  subst hu
  subst hv
  exact ⟨rfl, (tm_fill (hj rfl) (Lv := [(1, .one (.s false 980 0 (none))), (2, .one (.v false (.int .i64 q0))), (3, .one (.p 0 0)), (6, .one (.v false (Value.slice none (0 : Nat) (0 : Nat)))), (7, .one (.v false (.int .i64 q1))), (8, .one (.v false (.int .i64 q2))), (9, .one (.s false 940 0 (none))), (10, .one (.v false (.int .i64 q3)))]) (by kernel_rfl) ⟨e1, e2, e3, e6, e7, e8, e9, e10, trivial⟩).trans (by kernel_rfl), rfl⟩
theorem wiD2_read_ok (st : Stt) (u : wiD2_U) (v : wiD1_V) (h : wiD2_read st = some (u, v)) : wiD2_cok st = true ∧ staysA [⟨940, some 9, 0, 0, 54, (.list (.prod (.int .i64) (.int .i64)))⟩] [0, 960, 980, 940] st.own = true ∧ wiD2_can st = wiD2_St u v := by
  obtain ⟨h1, h2, h3⟩ := wiD2_rd_ok (fun hb => by rw [Bool.and_eq_true, Bool.and_eq_true] at hb; exact hb.2.2) h
  rw [Bool.and_eq_true, Bool.and_eq_true] at h1
  refine ⟨h1.1, h1.2.1, ?_⟩
  have e : wiD2_can st = ⟨(wiD2_can st).tm, (wiD2_can st).own, 4031⟩ := by kernel_rfl
  rw [e, h2, h3]
  rfl
noncomputable def wiD2_cond (u : wiD2_U) (v : wiD1_V) : Bool := runC (wiD2_step u) v
noncomputable def wiD2_g (u : wiD2_U) (v : wiD1_V) : Nat × wiD1_V := runG (wiD2_step u) v
theorem wiD2_hg : ∀ (u : wiD2_U) (v : wiD1_V), wiD2_cond u v = true → loopN (wiD2_step u) ((fun u v => runF (wiD2_step u) v) u v) v = some (wiD2_g u v) := by
  exact fun u v h => run_hg h
noncomputable def wiD2_m (st : Stt) : Option (Tr (Ex × Stt)) := sumM wiD2_read wiD2_cond wiD2_St wiD2_g [(0, .exit 2)] st
noncomputable def moC_L54 : FuncId → Loops := addL 83 [0, 1, 0, 1, 1, 0, 1, 0, 0, 1, 0, 1] wiD2_m moC_L53
set_option maxRecDepth 100000 in
set_option maxHeartbeats 4000000 in
theorem moC_L54_ok : LoopsOK Try.prog moC_L54 :=
  loop_sumF (body := (bodyOf Try.prog 83)) (c := (loopOf (bodyOf Try.prog 83) [1, 0, 1, 0, 0, 1, 0, 1, 1, 0, 1, 0])) (kinds := [.exit 2]) (allow := [(0, .exit 2)]) (St := wiD2_St) (step := wiD2_step) (W := [0, 4, 5, 11, 12, 13, 14, 15, 16, 17, 18, 19, 20, 21, 22, 23, 24, 25, 26, 27, 28, 29, 30, 31, 32, 33, 34, 35, 36, 37, 38, 39, 40, 41, 42, 43, 44, 45, 46, 47]) (As := [⟨940, some 9, 0, 0, 54, (.list (.prod (.int .i64) (.int .i64)))⟩]) (ks := [0, 960, 980, 940]) (dd := [960, 4052]) (nx := 4031) (n := 100000) (g := wiD2_g) (cond := wiD2_cond) (fuel := (fun u v => runF (wiD2_step u) v)) (read := wiD2_read) (by kernel_rfl) (moC_S52_ok) (moC_L53_ok) 7 ⟨Try.f83, by kernel_rfl, by kernel_rfl⟩ (by kernel_rfl) (by kernel_rfl) (by kernel_rfl) wiD2_step_eq wiD2_hg wiD2_read_ok
noncomputable def wiD0_St (u : ctb1_V) (v : wiD1_V) : Stt := ⟨[.one .junk, .one (.s false 980 0 (none)), .one (.v false (.int .i64 u.1)), .one (.p 0 0), .one .junk, .one .junk, .one (.v false (Value.slice none (0 : Nat) (0 : Nat))), .one (.v false (.int .i64 v.1)), .one .junk, .one .junk, .one .junk, .one .junk, .one .junk, .one .junk, .one .junk, .one .junk, .one .junk, .one .junk, .one .junk, .one .junk, .one .junk, .one .junk, .one .junk, .one .junk, .one .junk, .one .junk, .one .junk, .one .junk, .one .junk, .one .junk, .one .junk, .one .junk, .one .junk, .one .junk, .one .junk, .one .junk, .one .junk, .one .junk, .one .junk, .one .junk, .one .junk, .one .junk, .one .junk, .one .junk, .one .junk, .one .junk, .one .junk, .one .junk], [(0, .cells [.fn 79 [], .fn 80 [], .v false (.int .i64 u.2)]), (960, .dead), (980, .row true false false 54 (.list (.prod (.int .i64) (.int .i64))) v.2)], 3020⟩
noncomputable def wiD0_step (u : ctb1_V) (v : wiD1_V) : Tr (wiD1_V ⊕ (Nat × wiD1_V)) :=
  match u, v with
  | (q0, q2), (q1, q3) => .br (decide (q1 < q0)) (.br (wiD2_cond (q0, q1, if IntKind.wrap .i64 (q0 - q1) < q1 then IntKind.wrap .i64 (q0 - q1) else q1, q2, q3) ((0 : Int), [])) (.br (Nat.beq (Prod.fst (wiD2_g (q0, q1, if IntKind.wrap .i64 (q0 - q1) < q1 then IntKind.wrap .i64 (q0 - q1) else q1, q2, q3) ((0 : Int), []))) (0 : Nat)) (.ret (.inl (IntKind.wrap .i64 (q1 + if IntKind.wrap .i64 (q0 - q1) < q1 then IntKind.wrap .i64 (q0 - q1) else q1), Prod.snd (Prod.snd (wiD2_g (q0, q1, if IntKind.wrap .i64 (q0 - q1) < q1 then IntKind.wrap .i64 (q0 - q1) else q1, q2, q3) ((0 : Int), [])))))) (.bad 902)) (.bad 901)) (.ret (.inr (0, (q1, q3))))
set_option maxRecDepth 100000 in
set_option maxHeartbeats 4000000 in
theorem wiD0_step_eq : ∀ (u : ctb1_V) (v : wiD1_V), (evalC Try.prog (evalB Try.prog moC_S52 (opens [81]) moC_L54 7).1 (evalB Try.prog moC_S52 (opens [81]) moC_L54 7).2 (opens [81]) (moC_L54 83) 100000 (0 :: [0, 1, 0, 1]) (loopOf (bodyOf Try.prog 83) [1, 0, 1, 0]) (wiD0_St u v) []).bind (finF [0, 4, 5, 8, 9, 10, 11, 12, 13, 14, 15, 16, 17, 18, 19, 20, 21, 22, 23, 24, 25, 26, 27, 28, 29, 30, 31, 32, 33, 34, 35, 36, 37, 38, 39, 40, 41, 42, 43, 44, 45, 46, 47] [⟨980, some 1, 0, 0, 54, (.list (.prod (.int .i64) (.int .i64)))⟩] [0, 960, 980] [960, 940] 3020) = (wiD0_step u v).bind (outA (wiD0_St u) [.exit 0]) := by
  rintro ⟨q0, q2⟩ ⟨q1, q3⟩
  kernel_rfl
noncomputable def wiD0_rd (b : Bool) (o1 : Option AV) (o2 : Option AV) (o3 : Option AV) (o6 : Option AV) (o7 : Option AV) (own : Own) : Option (ctb1_V × wiD1_V) := zrT b <| zrO o1 fun za1 => zrA1 za1 fun zc2 => zrSl 980 0 (none) zc2 <| zrO o2 fun za3 => zrA1 za3 fun zc4 => zrI .i64 zc4 fun q0 => zrO o3 fun za5 => zrA1 za5 fun zc6 => zrP 0 0 zc6 <| zrO o6 fun za7 => zrA1 za7 fun zc8 => zrNil zc8 <| zrO o7 fun za9 => zrA1 za9 fun zc10 => zrI .i64 zc10 fun q1 => zrL own fun zq11 zw12 => zrKey 0 zq11 fun zk13 => zrC zk13 fun zl14 => zrL zl14 fun zc15 zr16 => zrF 79 [] zc15 <| zrL zr16 fun zc17 zr18 => zrF 80 [] zc17 <| zrL zr18 fun zc19 zr20 => zrI .i64 zc19 fun q2 => zrN zr20 <| zrL zw12 fun zq21 zw22 => zrKey 960 zq21 fun zk23 => zrX zk23 <| zrL zw22 fun zq24 zw25 => zrKey 980 zq24 fun zk26 => zrR true 54 (.list (.prod (.int .i64) (.int .i64))) zk26 fun q3 => zrN zw25 <| some ((q0, q2), (q1, q3))
noncomputable def wiD0_can (st : Stt) : Stt := canA [0, 4, 5, 8, 9, 10, 11, 12, 13, 14, 15, 16, 17, 18, 19, 20, 21, 22, 23, 24, 25, 26, 27, 28, 29, 30, 31, 32, 33, 34, 35, 36, 37, 38, 39, 40, 41, 42, 43, 44, 45, 46, 47] [⟨980, some 1, 0, 0, 54, (.list (.prod (.int .i64) (.int .i64)))⟩] [0, 960, 980] [960, 940] 3020 st
noncomputable def wiD0_cok (st : Stt) : Bool := canAok [0, 4, 5, 8, 9, 10, 11, 12, 13, 14, 15, 16, 17, 18, 19, 20, 21, 22, 23, 24, 25, 26, 27, 28, 29, 30, 31, 32, 33, 34, 35, 36, 37, 38, 39, 40, 41, 42, 43, 44, 45, 46, 47] [⟨980, some 1, 0, 0, 54, (.list (.prod (.int .i64) (.int .i64)))⟩] [0, 960, 980] [960, 940] 3020 st
noncomputable def wiD0_read (st : Stt) : Option (ctb1_V × wiD1_V) := wiD0_rd (wiD0_cok st && (staysA [⟨980, some 1, 0, 0, 54, (.list (.prod (.int .i64) (.int .i64)))⟩] [0, 960, 980] st.own && juAll [0, 4, 5, 8, 9, 10, 11, 12, 13, 14, 15, 16, 17, 18, 19, 20, 21, 22, 23, 24, 25, 26, 27, 28, 29, 30, 31, 32, 33, 34, 35, 36, 37, 38, 39, 40, 41, 42, 43, 44, 45, 46, 47] (wiD0_can st).tm 48)) (wiD0_can st).tm[1]? (wiD0_can st).tm[2]? (wiD0_can st).tm[3]? (wiD0_can st).tm[6]? (wiD0_can st).tm[7]? (wiD0_can st).own
set_option maxRecDepth 100000 in
set_option maxHeartbeats 4000000 in
theorem wiD0_rd_ok {b : Bool} {tm : List AV} {own : Own} {u : ctb1_V} {v : wiD1_V} (hj : b = true → juAll [0, 4, 5, 8, 9, 10, 11, 12, 13, 14, 15, 16, 17, 18, 19, 20, 21, 22, 23, 24, 25, 26, 27, 28, 29, 30, 31, 32, 33, 34, 35, 36, 37, 38, 39, 40, 41, 42, 43, 44, 45, 46, 47] tm 48 = true) (h : wiD0_rd b tm[1]? tm[2]? tm[3]? tm[6]? tm[7]? own = some (u, v)) : b = true ∧ tm = (wiD0_St u v).tm ∧ own = (wiD0_St u v).own := by
  unfold wiD0_rd at h
  obtain ⟨rfl, h0⟩ := zrT_some h
  obtain ⟨za1, e1, h1⟩ := zrO_some h0
  obtain ⟨zc2, rfl, h2⟩ := zrA1_some h1
  obtain ⟨rfl, h3⟩ := zrSl_some h2
  obtain ⟨za3, e2, h4⟩ := zrO_some h3
  obtain ⟨zc4, rfl, h5⟩ := zrA1_some h4
  obtain ⟨q0, rfl, h6⟩ := zrI_some h5
  obtain ⟨za5, e3, h7⟩ := zrO_some h6
  obtain ⟨zc6, rfl, h8⟩ := zrA1_some h7
  obtain ⟨rfl, h9⟩ := zrP_some h8
  obtain ⟨za7, e6, h10⟩ := zrO_some h9
  obtain ⟨zc8, rfl, h11⟩ := zrA1_some h10
  obtain ⟨rfl, h12⟩ := zrNil_some h11
  obtain ⟨za9, e7, h13⟩ := zrO_some h12
  obtain ⟨zc10, rfl, h14⟩ := zrA1_some h13
  obtain ⟨q1, rfl, h15⟩ := zrI_some h14
  obtain ⟨zq11, zw12, rfl, h16⟩ := zrL_some h15
  obtain ⟨zk13, rfl, h17⟩ := zrKey_some h16
  obtain ⟨zl14, rfl, h18⟩ := zrC_some h17
  obtain ⟨zc15, zr16, rfl, h19⟩ := zrL_some h18
  obtain ⟨rfl, h20⟩ := zrF_some h19
  obtain ⟨zc17, zr18, rfl, h21⟩ := zrL_some h20
  obtain ⟨rfl, h22⟩ := zrF_some h21
  obtain ⟨zc19, zr20, rfl, h23⟩ := zrL_some h22
  obtain ⟨q2, rfl, h24⟩ := zrI_some h23
  obtain ⟨rfl, h25⟩ := zrN_some h24
  obtain ⟨zq21, zw22, rfl, h26⟩ := zrL_some h25
  obtain ⟨zk23, rfl, h27⟩ := zrKey_some h26
  obtain ⟨rfl, h28⟩ := zrX_some h27
  obtain ⟨zq24, zw25, rfl, h29⟩ := zrL_some h28
  obtain ⟨zk26, rfl, h30⟩ := zrKey_some h29
  obtain ⟨q3, rfl, h31⟩ := zrR_some h30
  obtain ⟨rfl, h32⟩ := zrN_some h31
  have h := Option.some.inj h32
  have hu := congrArg Prod.fst h
  have hv := congrArg Prod.snd h
  dsimp only at hu hv
  subst hu
  subst hv
  exact ⟨rfl, (tm_fill (hj rfl) (Lv := [(1, .one (.s false 980 0 (none))), (2, .one (.v false (.int .i64 q0))), (3, .one (.p 0 0)), (6, .one (.v false (Value.slice none (0 : Nat) (0 : Nat)))), (7, .one (.v false (.int .i64 q1)))]) (by kernel_rfl) ⟨e1, e2, e3, e6, e7, trivial⟩).trans (by kernel_rfl), rfl⟩
theorem wiD0_read_ok (st : Stt) (u : ctb1_V) (v : wiD1_V) (h : wiD0_read st = some (u, v)) : wiD0_cok st = true ∧ staysA [⟨980, some 1, 0, 0, 54, (.list (.prod (.int .i64) (.int .i64)))⟩] [0, 960, 980] st.own = true ∧ wiD0_can st = wiD0_St u v := by
  obtain ⟨h1, h2, h3⟩ := wiD0_rd_ok (fun hb => by rw [Bool.and_eq_true, Bool.and_eq_true] at hb; exact hb.2.2) h
  rw [Bool.and_eq_true, Bool.and_eq_true] at h1
  refine ⟨h1.1, h1.2.1, ?_⟩
  have e : wiD0_can st = ⟨(wiD0_can st).tm, (wiD0_can st).own, 3020⟩ := by kernel_rfl
  rw [e, h2, h3]
  rfl
noncomputable def wiD0_cond (u : ctb1_V) (v : wiD1_V) : Bool := runC (wiD0_step u) v
noncomputable def wiD0_g (u : ctb1_V) (v : wiD1_V) : Nat × wiD1_V := runG (wiD0_step u) v
theorem wiD0_hg : ∀ (u : ctb1_V) (v : wiD1_V), wiD0_cond u v = true → loopN (wiD0_step u) ((fun u v => runF (wiD0_step u) v) u v) v = some (wiD0_g u v) := by
  exact fun u v h => run_hg h
noncomputable def wiD0_m (st : Stt) : Option (Tr (Ex × Stt)) := sumM wiD0_read wiD0_cond wiD0_St wiD0_g [(0, .exit 0)] st
noncomputable def moC_L55 : FuncId → Loops := addL 83 [0, 1, 0, 1] wiD0_m moC_L54
set_option maxRecDepth 100000 in
set_option maxHeartbeats 4000000 in
theorem moC_L55_ok : LoopsOK Try.prog moC_L55 :=
  loop_sumF (body := (bodyOf Try.prog 83)) (c := (loopOf (bodyOf Try.prog 83) [1, 0, 1, 0])) (kinds := [.exit 0]) (allow := [(0, .exit 0)]) (St := wiD0_St) (step := wiD0_step) (W := [0, 4, 5, 8, 9, 10, 11, 12, 13, 14, 15, 16, 17, 18, 19, 20, 21, 22, 23, 24, 25, 26, 27, 28, 29, 30, 31, 32, 33, 34, 35, 36, 37, 38, 39, 40, 41, 42, 43, 44, 45, 46, 47]) (As := [⟨980, some 1, 0, 0, 54, (.list (.prod (.int .i64) (.int .i64)))⟩]) (ks := [0, 960, 980]) (dd := [960, 940]) (nx := 3020) (n := 100000) (g := wiD0_g) (cond := wiD0_cond) (fuel := (fun u v => runF (wiD0_step u) v)) (read := wiD0_read) (by kernel_rfl) (moC_S52_ok) (moC_L54_ok) 7 ⟨Try.f83, by kernel_rfl, by kernel_rfl⟩ (by kernel_rfl) (by kernel_rfl) (by kernel_rfl) wiD0_step_eq wiD0_hg wiD0_read_ok
theorem wiD1_run {W : List Rl} {n : Int} {ro : Int} {s t : Nat} (hW : Rws W) (ht : t ≤ 200) : wiD1_cond (W, n, (s : Int), (t : Int), ro) (0, []) = true ∧ (wiD1_g (W, n, (s : Int), (t : Int), ro) (0, [])).1 = 0 ∧ (wiD1_g (W, n, (s : Int), (t : Int), ro) (0, [])).2.2 = tab (W.length - t) fun i => chL (W.getD i []) (W.getD (i + t) []) (anq true) := by
  have hn := hW.1
  have R1 := run_steps (step := wiD1_step (W, n, (s : Int), (t : Int), ro)) (St := fun j => ((j : Int), tab j fun i => chL (W.getD i []) (W.getD (i + t) []) (anq true))) (n := W.length - t) (t := (0, (((W.length - t : Nat) : Int), tab (W.length - t) fun i => chL (W.getD i []) (W.getD (i + t) []) (anq true)))) (by
    have w : IntKind.wrap .i64 (((W.length - t : Nat) : Int) + (t : Int)) = ((W.length - t : Nat) : Int) + (t : Int) := wid (by omega) (by omega)
    have d : decide (((W.length - t : Nat) : Int) + (t : Int) < (W.length : Int)) = false := decide_eq_false (by omega)
    simp only [wiD1_step, Tr.val, w, d, cond_false]) (W.length - t) 0 (Nat.zero_add _) (fun j _ hj => by
    have w : IntKind.wrap .i64 ((j : Int) + (t : Int)) = ((j + t : Nat) : Int) := by rw [wid (by omega) (by omega)]; omega
    have w1 : IntKind.wrap .i64 ((j : Int) + (1 : Int)) = ((j + 1 : Nat) : Int) := by rw [wid (by omega) (by omega)]; omega
    have h1 : j < W.length := by omega
    have h2 : j + t < W.length := by omega
    obtain ⟨r1, r2⟩ := room24 (n := j + 1) (by omega)
    simp only [wiD1_step, Tr.val, w, w1, lt_t h1, lt_t h2, nn_t, el_w, decide_eq_true (rws_len hW j), decide_eq_true (rws_len hW (j + t)), tab_length, r1, r2, Bool.and_self, cond_true, tab_succ]
    rfl)
  refine ⟨R1.1, ?_, ?_⟩
  · rw [show wiD1_g (W, n, (s : Int), (t : Int), ro) (0, []) = _ from R1.2]
  · rw [show wiD1_g (W, n, (s : Int), (t : Int), ro) (0, []) = _ from R1.2]
theorem wiD2_run {W : List Rl} {n : Int} {ro : Int} {s t : Nat} (hW : Rws W) (ht : t ≤ 200) : wiD2_cond (n, (s : Int), (t : Int), ro, W) (0, []) = true ∧ (wiD2_g (n, (s : Int), (t : Int), ro, W) (0, [])).1 = 0 ∧ (wiD2_g (n, (s : Int), (t : Int), ro, W) (0, [])).2.2 = tab (W.length - t) fun i => chL (W.getD i []) (W.getD (i + t) []) (anq true) := by
  have hn := hW.1
  have R1 := run_steps (step := wiD2_step (n, (s : Int), (t : Int), ro, W)) (St := fun j => ((j : Int), tab j fun i => chL (W.getD i []) (W.getD (i + t) []) (anq true))) (n := W.length - t) (t := (0, (((W.length - t : Nat) : Int), tab (W.length - t) fun i => chL (W.getD i []) (W.getD (i + t) []) (anq true)))) (by
    have w : IntKind.wrap .i64 (((W.length - t : Nat) : Int) + (t : Int)) = ((W.length - t : Nat) : Int) + (t : Int) := wid (by omega) (by omega)
    have d : decide (((W.length - t : Nat) : Int) + (t : Int) < (W.length : Int)) = false := decide_eq_false (by omega)
    simp only [wiD2_step, Tr.val, w, d, cond_false]) (W.length - t) 0 (Nat.zero_add _) (fun j _ hj => by
    have w : IntKind.wrap .i64 ((j : Int) + (t : Int)) = ((j + t : Nat) : Int) := by rw [wid (by omega) (by omega)]; omega
    have w1 : IntKind.wrap .i64 ((j : Int) + (1 : Int)) = ((j + 1 : Nat) : Int) := by rw [wid (by omega) (by omega)]; omega
    have h1 : j < W.length := by omega
    have h2 : j + t < W.length := by omega
    obtain ⟨r1, r2⟩ := room24 (n := j + 1) (by omega)
    simp only [wiD2_step, Tr.val, w, w1, lt_t h1, lt_t h2, nn_t, el_w, decide_eq_true h1, decide_eq_true h2, Int.toNat_natCast, decide_eq_true (rws_len hW j), decide_eq_true (rws_len hW (j + t)), tab_length, r1, r2, Bool.and_self, cond_true, tab_succ]
    rfl)
  refine ⟨R1.1, ?_, ?_⟩
  · rw [show wiD2_g (n, (s : Int), (t : Int), ro, W) (0, []) = _ from R1.2]
  · rw [show wiD2_g (n, (s : Int), (t : Int), ro, W) (0, []) = _ from R1.2]
theorem wiD0_run {W l : List Rl} {n s : Nat} {ro : Int} (hW : Rws W) (hn : n ≤ 200) (h0 : 0 < s) (hs : s ≤ n) (w : Wn true (fun i => W.getD i []) W.length s l) : wiD0_cond ((n : Int), ro) ((s : Int), l) = true ∧ (wiD0_g ((n : Int), ro) ((s : Int), l)).1 = 0 ∧ Wn true (fun i => W.getD i []) W.length n (wiD0_g ((n : Int), ro) ((s : Int), l)).2.2 := by
  refine run_val (step := wiD0_step ((n : Int), ro)) (Inv := fun s => ∃ (z : Nat) (l : List Rl), s = ((z : Int), l) ∧ 0 < z ∧ z ≤ n ∧ Wn true (fun i => W.getD i []) W.length z l) (μ := fun s => n - s.1.toNat) (Q := fun t => t.1 = 0 ∧ Wn true (fun i => W.getD i []) W.length n t.2.2) ?_ _ _ (Nat.lt_succ_self _) ⟨s, l, rfl, h0, hs, w⟩
  rintro s ⟨z, l, rfl, z0, z1, w⟩
  by_cases g : z < n
  · have e : (if IntKind.wrap .i64 ((n : Int) - (z : Int)) < (z : Int) then IntKind.wrap .i64 ((n : Int) - (z : Int)) else (z : Int)) = ((min z (n - z) : Nat) : Int) := by
      rw [wid (by omega) (by omega)]
      by_cases k : (n : Int) - (z : Int) < (z : Int)
      · rw [if_pos k]; omega
      · rw [if_neg k]; omega
    have w1 : IntKind.wrap .i64 ((z : Int) + ((min z (n - z) : Nat) : Int)) = ((z + min z (n - z) : Nat) : Int) := by rw [wid (by omega) (by omega)]; omega
    obtain ⟨v1, v2, v3⟩ := wiD2_run (n := (n : Int)) (ro := ro) (s := z) (t := min z (n - z)) (wn_rws hW w z0) (by omega)
    refine ⟨.inl (((z + min z (n - z) : Nat) : Int), (wiD2_g ((n : Int), (z : Int), ((min z (n - z) : Nat) : Int), ro, l) (0, [])).2.2), ?_, ⟨_, _, rfl, by omega, by omega, by rw [v3]; exact wn_step w z0 (by omega)⟩, by show n - ((z + min z (n - z) : Nat) : Int).toNat < n - (z : Int).toNat; omega⟩
    simp only [wiD0_step, Tr.val, lt_t g, e, w1, v1, v2, Nat.beq, cond_true]
  · have d : decide ((z : Int) < (n : Int)) = false := decide_eq_false (by omega)
    have : z = n := by omega
    subst this
    exact ⟨.inr (0, ((z : Int), l)), by simp only [wiD0_step, Tr.val, d, cond_false], rfl, w⟩
set_option maxRecDepth 100000 in
theorem wiDc_tree (ro : Int) (W : (Ty.list (.list (.prod (.int .i64) (.int .i64)))).den) (n : Int) : evalF Try.prog moC_S52 (opens [81]) moC_L55 9 83 [.ag [.fn 79 [], .fn 80 [], .v false (.int .i64 ro)], .one (.d false false (.list (.prod (.int .i64) (.int .i64))) W), .one (.v false (.int .i64 n))] = .br ((bif decide ((1 : Int) < n) then ((wiD1_cond (W, n, (1 : Int), if IntKind.wrap .i64 (n - (1 : Int)) < (1 : Int) then IntKind.wrap .i64 (n - (1 : Int)) else (1 : Int), ro) ((0 : Int), [])) && ((Nat.beq (Prod.fst (wiD1_g (W, n, (1 : Int), if IntKind.wrap .i64 (n - (1 : Int)) < (1 : Int) then IntKind.wrap .i64 (n - (1 : Int)) else (1 : Int), ro) ((0 : Int), []))) (0 : Nat)) && ((wiD0_cond (n, ro) (IntKind.wrap .i64 ((1 : Int) + if IntKind.wrap .i64 (n - (1 : Int)) < (1 : Int) then IntKind.wrap .i64 (n - (1 : Int)) else (1 : Int)), Prod.snd (Prod.snd (wiD1_g (W, n, (1 : Int), if IntKind.wrap .i64 (n - (1 : Int)) < (1 : Int) then IntKind.wrap .i64 (n - (1 : Int)) else (1 : Int), ro) ((0 : Int), []))))) && (Nat.beq (Prod.fst (wiD0_g (n, ro) (IntKind.wrap .i64 ((1 : Int) + if IntKind.wrap .i64 (n - (1 : Int)) < (1 : Int) then IntKind.wrap .i64 (n - (1 : Int)) else (1 : Int)), Prod.snd (Prod.snd (wiD1_g (W, n, (1 : Int), if IntKind.wrap .i64 (n - (1 : Int)) < (1 : Int) then IntKind.wrap .i64 (n - (1 : Int)) else (1 : Int), ro) ((0 : Int), [])))))) (0 : Nat))))) else true)) (.ret (.one (.d false false (.list (.prod (.int .i64) (.int .i64))) (bif decide ((1 : Int) < n) then Prod.snd (Prod.snd (wiD0_g (n, ro) (IntKind.wrap .i64 ((1 : Int) + if IntKind.wrap .i64 (n - (1 : Int)) < (1 : Int) then IntKind.wrap .i64 (n - (1 : Int)) else (1 : Int)), Prod.snd (Prod.snd (wiD1_g (W, n, (1 : Int), if IntKind.wrap .i64 (n - (1 : Int)) < (1 : Int) then IntKind.wrap .i64 (n - (1 : Int)) else (1 : Int), ro) ((0 : Int), [])))))) else W)))) (.bad 116) := by kernel_rfl
theorem wiDc_val (ro : Int) (W : (Ty.list (.list (.prod (.int .i64) (.int .i64)))).den) (n : Int) (hc : (wiOk W n) = true) : (.br ((bif decide ((1 : Int) < n) then ((wiD1_cond (W, n, (1 : Int), if IntKind.wrap .i64 (n - (1 : Int)) < (1 : Int) then IntKind.wrap .i64 (n - (1 : Int)) else (1 : Int), ro) ((0 : Int), [])) && ((Nat.beq (Prod.fst (wiD1_g (W, n, (1 : Int), if IntKind.wrap .i64 (n - (1 : Int)) < (1 : Int) then IntKind.wrap .i64 (n - (1 : Int)) else (1 : Int), ro) ((0 : Int), []))) (0 : Nat)) && ((wiD0_cond (n, ro) (IntKind.wrap .i64 ((1 : Int) + if IntKind.wrap .i64 (n - (1 : Int)) < (1 : Int) then IntKind.wrap .i64 (n - (1 : Int)) else (1 : Int)), Prod.snd (Prod.snd (wiD1_g (W, n, (1 : Int), if IntKind.wrap .i64 (n - (1 : Int)) < (1 : Int) then IntKind.wrap .i64 (n - (1 : Int)) else (1 : Int), ro) ((0 : Int), []))))) && (Nat.beq (Prod.fst (wiD0_g (n, ro) (IntKind.wrap .i64 ((1 : Int) + if IntKind.wrap .i64 (n - (1 : Int)) < (1 : Int) then IntKind.wrap .i64 (n - (1 : Int)) else (1 : Int)), Prod.snd (Prod.snd (wiD1_g (W, n, (1 : Int), if IntKind.wrap .i64 (n - (1 : Int)) < (1 : Int) then IntKind.wrap .i64 (n - (1 : Int)) else (1 : Int), ro) ((0 : Int), [])))))) (0 : Nat))))) else true)) (.ret (.one (.d false false (.list (.prod (.int .i64) (.int .i64))) (bif decide ((1 : Int) < n) then Prod.snd (Prod.snd (wiD0_g (n, ro) (IntKind.wrap .i64 ((1 : Int) + if IntKind.wrap .i64 (n - (1 : Int)) < (1 : Int) then IntKind.wrap .i64 (n - (1 : Int)) else (1 : Int)), Prod.snd (Prod.snd (wiD1_g (W, n, (1 : Int), if IntKind.wrap .i64 (n - (1 : Int)) < (1 : Int) then IntKind.wrap .i64 (n - (1 : Int)) else (1 : Int), ro) ((0 : Int), [])))))) else W)))) (.bad 116) : Tr AV).val = some (.one (.d false false (.list (.prod (.int .i64) (.int .i64))) (wnV true W n))) := by
  obtain ⟨K, rfl⟩ : ∃ K : List Rl, K = W := ⟨W, rfl⟩
  obtain ⟨hW, n0, n1⟩ := wiOk_iff.1 hc
  obtain ⟨n, rfl⟩ : ∃ j : Nat, n = (j : Int) := ⟨n.toNat, by omega⟩
  show cond _ _ _ = _
  by_cases g : (1 : Int) < (n : Int)
  · have d : decide ((1 : Int) < (n : Int)) = true := decide_eq_true g
    have e : (if IntKind.wrap .i64 ((n : Int) - (1 : Int)) < (1 : Int) then IntKind.wrap .i64 ((n : Int) - (1 : Int)) else (1 : Int)) = ((1 : Nat) : Int) := by
      rw [wid (by omega) (by omega), if_neg (by omega)]; rfl
    have w1 : IntKind.wrap .i64 ((1 : Int) + ((1 : Nat) : Int)) = ((2 : Nat) : Int) := rfl
    obtain ⟨v1, v2, v3⟩ := wiD1_run (W := K) (n := (n : Int)) (ro := ro) (s := 1) (t := 1) hW (by omega)
    have ws := wn_step (wn_one (q := true) hW) (by omega) (Nat.le_refl 1)
    rw [← v3] at ws
    obtain ⟨u1, u2, u3⟩ := wiD0_run (W := K) (n := n) (s := 2) (ro := ro) hW (by omega) (by omega) (by omega) ws
    have ee := wnV_eq u3
    simp only [d, e, w1, cond_true]
    have v1' : wiD1_cond (K, (n : Int), (1 : Int), ((1 : Nat) : Int), ro) ((0 : Int), []) = true := v1
    have v2' : (wiD1_g (K, (n : Int), (1 : Int), ((1 : Nat) : Int), ro) ((0 : Int), [])).1 = 0 := v2
    have u1' : wiD0_cond ((n : Int), ro) (((2 : Nat) : Int), (wiD1_g (K, (n : Int), (1 : Int), ((1 : Nat) : Int), ro) ((0 : Int), [])).2.2) = true := u1
    have u2' : (wiD0_g ((n : Int), ro) (((2 : Nat) : Int), (wiD1_g (K, (n : Int), (1 : Int), ((1 : Nat) : Int), ro) ((0 : Int), [])).2.2)).1 = 0 := u2
    rw [ee]
    simp only [v1', v2', u1', u2', Nat.beq, Bool.and_self, cond_true, Tr.val]
    rfl
  · have d : decide ((1 : Int) < (n : Int)) = false := decide_eq_false g
    have : n = 1 := by omega
    subst this
    rw [wnV_eq (wn_one hW)]
    simp only [d, cond_true, cond_false, Tr.val]
noncomputable def wiDc_g : List AV → Option (Tr AV)
  | [.ag [.fn 79 [], .fn 80 [], .v _ (.int .i64 ro)], .one (.d _ _ (.list (.prod (.int .i64) (.int .i64))) W), .one (.v _ (.int .i64 n))] => some (.br (wiOk W n) (.ret (.one (.d false false (.list (.prod (.int .i64) (.int .i64))) (wnV true W n)))) (.bad 900))
  | _ => none
set_option maxHeartbeats 4000000 in
theorem wiDc_ok : FunOK Try.prog 83 wiDc_g := by
  refine fun_ok (by kernel_rfl) (moC_S52_ok) (moC_L55_ok) 9 (On := (opens [81])) (fun args t h => ?_)
  unfold wiDc_g at h
  split at h
  · rename_i _ ro _ _ W _ n
    simp only [Option.some.injEq] at h
    subst h
    refine ⟨[.ag [.fn 79 [], .fn 80 [], .v false (.int .i64 ro)], .one (.d false false (.list (.prod (.int .i64) (.int .i64))) W), .one (.v false (.int .i64 n))], rfl, fun fr w us h => h, fun r hr => ?_⟩
    obtain ⟨hc, hr⟩ := br_bad hr
    simp only [Tr.val, Option.some.injEq] at hr
    subst hr
    rw [wiDc_tree]
    exact wiDc_val ro W n hc
  · cases h
noncomputable def moC_S56 : Sums := addS 83 wiDc_g moC_S52
theorem moC_S56_ok : SumOK Try.prog moC_S56 := addS_ok (wiDc_ok) (moC_S52_ok)
noncomputable def moC_L57 : FuncId → Loops := moC_L55
set_option maxRecDepth 100000 in
set_option maxHeartbeats 4000000 in
theorem moC_L57_ok : LoopsOK Try.prog moC_L57 := moC_L55_ok
noncomputable def moC_L58 : FuncId → Loops := moC_L57
set_option maxRecDepth 100000 in
set_option maxHeartbeats 4000000 in
theorem moC_L58_ok : LoopsOK Try.prog moC_L58 := moC_L57_ok
noncomputable def moC_L59 : FuncId → Loops := moC_L58
set_option maxRecDepth 100000 in
set_option maxHeartbeats 4000000 in
theorem moC_L59_ok : LoopsOK Try.prog moC_L59 := moC_L58_ok
noncomputable def moC_S60 : Sums := moC_S56
theorem moC_S60_ok : SumOK Try.prog moC_S60 := moC_S56_ok
end Go.Proofs.Ytacgchandefjgaa
