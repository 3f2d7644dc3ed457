/-
  Layer 20: windows of rows, regions of rows.
-/
import Derived.Test.YtdoodmapmhibhaaProg
import Derived.Test.YtdoodmapmhibhaaFvX
import Derived.Test.YtdoodmapmhibhaaFvZ
import Derived.Test.YtdoodmapmhibhaaAut
import Derived.Test.YtdoodmapmhibhaaRd
import Derived.Test.YtdoodmapmhibhaaPl
import Derived.Test.YtdoodmapmhibhaaScn
import Derived.Test.YtdoodmapmhibhaaRegM
import Derived.Test.YtdoodmapmhibhaaMor
import Derived.Test.YtdoodmapmhibhaaRgA
import Derived.Test.YtdoodmapmhibhaaRgB
import Derived.Test.YtdoodmapmhibhaaRgC
import Derived.Test.YtdoodmapmhibhaaRgD
import Derived.Test.YtdoodmapmhibhaaMoB
namespace Go.Proofs.Ytdoodmapmhibhaa
open Go
abbrev rgo_U : Type := Int × (Ty.list (.list (.prod (.int .i64) (.int .i64)))).den × Int
noncomputable def rgo_St (u : rgo_U) (v : ctb0_U) : Stt := ⟨[.one .junk, .one (.v false (.int .i64 u.1)), .one .junk, .one .junk, .one (.p 0 0), .one (.p 1 0), .one .junk, .one .junk, .one (.d false false (.list (.prod (.int .i64) (.int .i64))) u.2.1), .one (.v false (.int .i64 u.2.2)), .one (.v false (.int .i64 v.1)), .one .junk, .one .junk, .one .junk, .one .junk, .one .junk, .one .junk, .one .junk, .one .junk, .one .junk, .one .junk, .one .junk, .one .junk, .one .junk, .one .junk, .one .junk, .one .junk, .one .junk, .one .junk, .one .junk], [(1, .cells [.s false 980 0 (none)]), (0, .cells [.v false (Value.slice none (0 : Nat) (0 : Nat))]), (980, .row true false false 47 (.prod (.int .i64) (.list (.prod (.int .i64) (.int .i64)))) v.2)], 1005⟩
def el_lii (l : (Ty.list (Ty.list (Ty.prod (Ty.int IntKind.i64) (Ty.int IntKind.i64)))).den) (i : Int) : (List (Int × Int)) := elm (Ty.list (Ty.prod (Ty.int IntKind.i64) (Ty.int IntKind.i64))) l i
noncomputable def rgo_step (u : rgo_U) (v : ctb0_U) : Tr (ctb0_U ⊕ (Nat × ctb0_U)) :=
  match u, v with
  | (q0, q1, q2), (q3, q4) => .br (decide (q3 < q2)) (.br (decide ((0 : Int) ≤ q3) && decide (q3 < (↑(List.length q1) : Int))) (.br (decide ((↑(List.length (el_lii q1 q3)) : Int) > (0 : Int))) (.br (decide ((List.length q4 + (1 : Nat)) * (32 : Nat) ≤ maxNew) && decide (List.length q4 + (1 : Nat) ≤ maxLen)) (.ret (.inl (IntKind.wrap .i64 (q3 + (1 : Int)), q4 ++ [(IntKind.wrap .i64 (q0 + q3), el_lii q1 q3)]))) (.bad 71)) (.ret (.inl (IntKind.wrap .i64 (q3 + (1 : Int)), q4)))) (.bad 29)) (.ret (.inr (0, (q3, q4))))
set_option maxRecDepth 100000 in
set_option maxHeartbeats 4000000 in
theorem rgo_step_eq : ∀ (u : rgo_U) (v : ctb0_U), (evalC Try.prog (evalB Try.prog moB_S52 (opens []) moA_L57 7).1 (evalB Try.prog moB_S52 (opens []) moA_L57 7).2 (opens []) (moA_L57 73) 100000 (0 :: [0, 1, 0, 1, 1]) (loopOf (bodyOf Try.prog 73) [1, 1, 0, 1, 0]) (rgo_St u v) []).bind (finF [0, 2, 3, 6, 7, 11, 12, 13, 14, 15, 16, 17, 18, 19, 20, 21, 22, 23, 24, 25, 26, 27, 28, 29] [⟨980, none, 1, 0, 47, (.prod (.int .i64) (.list (.prod (.int .i64) (.int .i64))))⟩] [1, 0, 980] [1022] 1005) = (rgo_step u v).bind (outA (rgo_St u) [.exit 0]) := by
  rintro ⟨q0, q1, q2⟩ ⟨q3, q4⟩
  kernel_rfl
noncomputable def rgo_rd (b : Bool) (o1 : Option AV) (o4 : Option AV) (o5 : Option AV) (o8 : Option AV) (o9 : Option AV) (o10 : Option AV) (own : Own) : Option (rgo_U × ctb0_U) := zrT b <| zrO o1 fun za1 => zrA1 za1 fun zc2 => zrI .i64 zc2 fun q0 => zrO o4 fun za3 => zrA1 za3 fun zc4 => zrP 0 0 zc4 <| zrO o5 fun za5 => zrA1 za5 fun zc6 => zrP 1 0 zc6 <| zrO o8 fun za7 => zrA1 za7 fun zc8 => zrD (.list (.prod (.int .i64) (.int .i64))) zc8 fun q1 => zrO o9 fun za9 => zrA1 za9 fun zc10 => zrI .i64 zc10 fun q2 => zrO o10 fun za11 => zrA1 za11 fun zc12 => zrI .i64 zc12 fun q3 => zrL own fun zq13 zw14 => zrKey 1 zq13 fun zk15 => zrC zk15 fun zl16 => zrL zl16 fun zc17 zr18 => zrSl 980 0 (none) zc17 <| zrN zr18 <| zrL zw14 fun zq19 zw20 => zrKey 0 zq19 fun zk21 => zrC zk21 fun zl22 => zrL zl22 fun zc23 zr24 => zrNil zc23 <| zrN zr24 <| zrL zw20 fun zq25 zw26 => zrKey 980 zq25 fun zk27 => zrR true 47 (.prod (.int .i64) (.list (.prod (.int .i64) (.int .i64)))) zk27 fun q4 => zrN zw26 <| some ((q0, q1, q2), (q3, q4))
noncomputable def rgo_can (st : Stt) : Stt := canA [0, 2, 3, 6, 7, 11, 12, 13, 14, 15, 16, 17, 18, 19, 20, 21, 22, 23, 24, 25, 26, 27, 28, 29] [⟨980, none, 1, 0, 47, (.prod (.int .i64) (.list (.prod (.int .i64) (.int .i64))))⟩] [1, 0, 980] [1022] 1005 st
noncomputable def rgo_cok (st : Stt) : Bool := canAok [0, 2, 3, 6, 7, 11, 12, 13, 14, 15, 16, 17, 18, 19, 20, 21, 22, 23, 24, 25, 26, 27, 28, 29] [⟨980, none, 1, 0, 47, (.prod (.int .i64) (.list (.prod (.int .i64) (.int .i64))))⟩] [1, 0, 980] [1022] 1005 st
noncomputable def rgo_read (st : Stt) : Option (rgo_U × ctb0_U) := rgo_rd (rgo_cok st && (staysA [⟨980, none, 1, 0, 47, (.prod (.int .i64) (.list (.prod (.int .i64) (.int .i64))))⟩] [1, 0, 980] st.own && juAll [0, 2, 3, 6, 7, 11, 12, 13, 14, 15, 16, 17, 18, 19, 20, 21, 22, 23, 24, 25, 26, 27, 28, 29] (rgo_can st).tm 30)) (rgo_can st).tm[1]? (rgo_can st).tm[4]? (rgo_can st).tm[5]? (rgo_can st).tm[8]? (rgo_can st).tm[9]? (rgo_can st).tm[10]? (rgo_can st).own
set_option maxRecDepth 100000 in
set_option maxHeartbeats 4000000 in
theorem rgo_rd_ok {b : Bool} {tm : List AV} {own : Own} {u : rgo_U} {v : ctb0_U} (hj : b = true → juAll [0, 2, 3, 6, 7, 11, 12, 13, 14, 15, 16, 17, 18, 19, 20, 21, 22, 23, 24, 25, 26, 27, 28, 29] tm 30 = true) (h : rgo_rd b tm[1]? tm[4]? tm[5]? tm[8]? tm[9]? tm[10]? own = some (u, v)) : b = true ∧ tm = (rgo_St u v).tm ∧ own = (rgo_St u v).own := by
  unfold rgo_rd at h
  obtain ⟨rfl, h0⟩ := zrT_some h
  obtain ⟨za1, e1, h1⟩ := zrO_some h0
  obtain ⟨zc2, rfl, h2⟩ := zrA1_some h1
  obtain ⟨q0, rfl, h3⟩ := zrI_some h2
  obtain ⟨za3, e4, h4⟩ := zrO_some h3
  obtain ⟨zc4, rfl, h5⟩ := zrA1_some h4
  obtain ⟨rfl, h6⟩ := zrP_some h5
  obtain ⟨za5, e5, h7⟩ := zrO_some h6
  obtain ⟨zc6, rfl, h8⟩ := zrA1_some h7
  obtain ⟨rfl, h9⟩ := zrP_some h8
  obtain ⟨za7, e8, h10⟩ := zrO_some h9
  obtain ⟨zc8, rfl, h11⟩ := zrA1_some h10
  obtain ⟨q1, rfl, h12⟩ := zrD_some h11
  obtain ⟨za9, e9, h13⟩ := zrO_some h12
  obtain ⟨zc10, rfl, h14⟩ := zrA1_some h13
  obtain ⟨q2, rfl, h15⟩ := zrI_some h14
  obtain ⟨za11, e10, h16⟩ := zrO_some h15
  obtain ⟨zc12, rfl, h17⟩ := zrA1_some h16
  obtain ⟨q3, rfl, h18⟩ := zrI_some h17
  obtain ⟨zq13, zw14, rfl, h19⟩ := zrL_some h18
  obtain ⟨zk15, rfl, h20⟩ := zrKey_some h19
  obtain ⟨zl16, rfl, h21⟩ := zrC_some h20
  obtain ⟨zc17, zr18, rfl, h22⟩ := zrL_some h21
  obtain ⟨rfl, h23⟩ := zrSl_some h22
  obtain ⟨rfl, h24⟩ := zrN_some h23
  obtain ⟨zq19, zw20, rfl, h25⟩ := zrL_some h24
  obtain ⟨zk21, rfl, h26⟩ := zrKey_some h25
  obtain ⟨zl22, rfl, h27⟩ := zrC_some h26
  obtain ⟨zc23, zr24, rfl, h28⟩ := zrL_some h27
  obtain ⟨rfl, h29⟩ := zrNil_some h28
  obtain ⟨rfl, h30⟩ := zrN_some h29
  obtain ⟨zq25, zw26, rfl, h31⟩ := zrL_some h30
  obtain ⟨zk27, rfl, h32⟩ := zrKey_some h31
  obtain ⟨q4, rfl, h33⟩ := zrR_some h32
  obtain ⟨rfl, h34⟩ := zrN_some h33
  have h := Option.some.inj h34
  have hu := congrArg Prod.fst h
  have hv := congrArg Prod.snd h
  dsimp only at hu hv
  subst hu
  subst hv
  exact ⟨rfl, (tm_fill (hj rfl) (Lv := [(1, .one (.v false (.int .i64 q0))), (4, .one (.p 0 0)), (5, .one (.p 1 0)), (8, .one (.d false false (.list (.prod (.int .i64) (.int .i64))) q1)), (9, .one (.v false (.int .i64 q2))), (10, .one (.v false (.int .i64 q3)))]) (by kernel_rfl) ⟨e1, e4, e5, e8, e9, e10, trivial⟩).trans (by kernel_rfl), rfl⟩
theorem rgo_read_ok (st : Stt) (u : rgo_U) (v : ctb0_U) (h : rgo_read st = some (u, v)) : rgo_cok st = true ∧ staysA [⟨980, none, 1, 0, 47, (.prod (.int .i64) (.list (.prod (.int .i64) (.int .i64))))⟩] [1, 0, 980] st.own = true ∧ rgo_can st = rgo_St u v := by
  obtain ⟨h1, h2, h3⟩ := rgo_rd_ok (fun hb => by rw [Bool.and_eq_true, Bool.and_eq_true] at hb; exact hb.2.2) h
  rw [Bool.and_eq_true, Bool.and_eq_true] at h1
  refine ⟨h1.1, h1.2.1, ?_⟩
  have e : rgo_can st = ⟨(rgo_can st).tm, (rgo_can st).own, 1005⟩ := by kernel_rfl
  rw [e, h2, h3]
  rfl
noncomputable def rgo_cond (u : rgo_U) (v : ctb0_U) : Bool := runC (rgo_step u) v
noncomputable def rgo_g (u : rgo_U) (v : ctb0_U) : Nat × ctb0_U := runG (rgo_step u) v
theorem rgo_hg : ∀ (u : rgo_U) (v : ctb0_U), rgo_cond u v = true → loopN (rgo_step u) ((fun u v => runF (rgo_step u) v) u v) v = some (rgo_g u v) := by
  exact fun u v h => run_hg h
noncomputable def rgo_m (st : Stt) : Option (Tr (Ex × Stt)) := sumM rgo_read rgo_cond rgo_St rgo_g [(0, .exit 0)] st
noncomputable def moC_L51 : FuncId → Loops := addL 73 [0, 1, 0, 1, 1] rgo_m moA_L57
set_option maxRecDepth 100000 in
set_option maxHeartbeats 4000000 in
theorem moC_L51_ok : LoopsOK Try.prog moC_L51 :=
  loop_sumF (body := (bodyOf Try.prog 73)) (c := (loopOf (bodyOf Try.prog 73) [1, 1, 0, 1, 0])) (kinds := [.exit 0]) (allow := [(0, .exit 0)]) (St := rgo_St) (step := rgo_step) (W := [0, 2, 3, 6, 7, 11, 12, 13, 14, 15, 16, 17, 18, 19, 20, 21, 22, 23, 24, 25, 26, 27, 28, 29]) (As := [⟨980, none, 1, 0, 47, (.prod (.int .i64) (.list (.prod (.int .i64) (.int .i64))))⟩]) (ks := [1, 0, 980]) (dd := [1022]) (nx := 1005) (n := 100000) (g := rgo_g) (cond := rgo_cond) (fuel := (fun u v => runF (rgo_step u) v)) (read := rgo_read) (by kernel_rfl) (moB_S52_ok) (moA_L57_ok) 7 ⟨Try.f73, by kernel_rfl, by kernel_rfl⟩ (by kernel_rfl) (by kernel_rfl) (by kernel_rfl) rgo_step_eq rgo_hg rgo_read_ok
theorem el_w (l : List Rl) (i : Nat) : el_lii l (i : Int) = l.getD i [] := elm_nat (.list (.prod (.int .i64) (.int .i64))) l i
theorem rgo_run {W : List Rl} {f : Int} (h : rgOk W f = true) : rgo_cond (f, W, (W.length : Int)) (0, []) = true ∧ rgo_g (f, W, (W.length : Int)) (0, []) = (0, ((W.length : Int), rgN (fun i => W.getD i []) f W.length)) := by
  unfold rgOk at h
  rw [Bool.and_eq_true, Bool.and_eq_true, decide_eq_true_eq, decide_eq_true_eq, decide_eq_true_eq] at h
  obtain ⟨hn, f1, f2⟩ := h
  have R1 := run_steps (step := rgo_step (f, W, (W.length : Int))) (St := fun j => ((j : Int), rgN (fun i => W.getD i []) f j)) (n := W.length) (t := (0, ((W.length : Int), rgN (fun i => W.getD i []) f W.length))) (by
    simp only [rgo_step, Tr.val, Int.lt_irrefl, decide_false, cond_false]) W.length 0 (Nat.zero_add _) (fun j _ hj => by
    have hl := rgN_len (fun i => W.getD i []) f j
    obtain ⟨r1, r2⟩ := room32 (n := (rgN (fun i => W.getD i []) f j).length + 1) (by omega)
    have w1 : IntKind.wrap .i64 (f + (j : Int)) = f + (j : Int) := wid (by omega) (by omega)
    have lp : decide (((W.getD j []).length : Int) > (0 : Int)) = decide (0 < (W.getD j []).length) := by rw [Bool.eq_iff_iff, decide_eq_true_eq, decide_eq_true_eq]; omega
    have er : rgN (fun i => W.getD i []) f (j + 1) = rgN (fun i => W.getD i []) f j ++ emit (f + (j : Int)) (W.getD j []) := rfl
    rw [er]
    simp only [rgo_step, Tr.val, lt_t hj, nn_t, el_w, lp, r1, r2, w1, wi1 hj (show (W.length : Int) ≤ 9223372036854775806 by omega), Bool.and_self, cond_true]
    unfold emit
    cases decide (0 < (W.getD j []).length)
    · simp only [cond_false, List.append_nil]
    · rfl)
  exact R1
set_option maxRecDepth 100000 in
theorem rgoc_tree (W : (Ty.list (.list (.prod (.int .i64) (.int .i64)))).den) (f : Int) : evalF Try.prog moB_S52 (opens []) moC_L51 9 73 [.one (.d false false (.list (.prod (.int .i64) (.int .i64))) W), .one (.v false (.int .i64 f))] = .br (((rgo_cond (f, W, (↑(List.length W) : Int)) ((0 : Int), [])) && (Nat.beq (Prod.fst (rgo_g (f, W, (↑(List.length W) : Int)) ((0 : Int), []))) (0 : Nat)))) (.ret (.ag [.d false false (.prod (.int .i64) (.list (.prod (.int .i64) (.int .i64)))) (Prod.snd (Prod.snd (rgo_g (f, W, (↑(List.length W) : Int)) ((0 : Int), []))))])) (.bad 116) := by kernel_rfl
theorem rgoc_val (W : (Ty.list (.list (.prod (.int .i64) (.int .i64)))).den) (f : Int) (hc : (rgOk W f) = true) : (.br (((rgo_cond (f, W, (↑(List.length W) : Int)) ((0 : Int), [])) && (Nat.beq (Prod.fst (rgo_g (f, W, (↑(List.length W) : Int)) ((0 : Int), []))) (0 : Nat)))) (.ret (.ag [.d false false (.prod (.int .i64) (.list (.prod (.int .i64) (.int .i64)))) (Prod.snd (Prod.snd (rgo_g (f, W, (↑(List.length W) : Int)) ((0 : Int), []))))])) (.bad 116) : Tr AV).val = some (.ag [.d false false (.prod (.int .i64) (.list (.prod (.int .i64) (.int .i64)))) (rgN (fun i => W.getD i []) f W.length)]) := by
  obtain ⟨K, rfl⟩ : ∃ K : List Rl, K = W := ⟨W, rfl⟩
  obtain ⟨v1, v2⟩ := rgo_run (W := K) hc
  show cond _ _ _ = _
  simp only [v1, v2, Nat.beq, Bool.and_self, cond_true, Tr.val]
noncomputable def rgoc_g : List AV → Option (Tr AV)
  | [.one (.d _ _ (.list (.prod (.int .i64) (.int .i64))) W), .one (.v _ (.int .i64 f))] => some (.br (rgOk W f) (.ret (.ag [.d false false (.prod (.int .i64) (.list (.prod (.int .i64) (.int .i64)))) (rgN (fun i => W.getD i []) f W.length)])) (.bad 900))
  | _ => none
set_option maxHeartbeats 4000000 in
theorem rgoc_ok : FunOK Try.prog 73 rgoc_g := by
  refine fun_ok (by kernel_rfl) (moB_S52_ok) (moC_L51_ok) 9 (On := (opens [])) (fun args t h => ?_)
  unfold rgoc_g at h
  split at h
  · rename_i _ _ W _ f
    simp only [Option.some.injEq] at h
    subst h
    refine ⟨[.one (.d false false (.list (.prod (.int .i64) (.int .i64))) W), .one (.v false (.int .i64 f))], rfl, fun fr w us h => h, fun r hr => ?_⟩
    obtain ⟨hc, hr⟩ := br_bad hr
    simp only [Tr.val, Option.some.injEq] at hr
    subst hr
    rw [rgoc_tree]
    exact rgoc_val W f hc
  · cases h
noncomputable def moC_S52 : Sums := addS 73 rgoc_g moB_S52
theorem moC_S52_ok : SumOK Try.prog moC_S52 := addS_ok (rgoc_ok) (moB_S52_ok)
abbrev wiD1_V : Type := Int × (Ty.list (.list (.prod (.int .i64) (.int .i64)))).den
noncomputable def moC_L53 : FuncId → Loops := moC_L51
set_option maxRecDepth 100000 in
set_option maxHeartbeats 4000000 in
theorem moC_L53_ok : LoopsOK Try.prog moC_L53 := moC_L51_ok
noncomputable def moC_L54 : FuncId → Loops := moC_L53
set_option maxRecDepth 100000 in
set_option maxHeartbeats 4000000 in
theorem moC_L54_ok : LoopsOK Try.prog moC_L54 := moC_L53_ok
noncomputable def moC_L55 : FuncId → Loops := moC_L54
set_option maxRecDepth 100000 in
set_option maxHeartbeats 4000000 in
theorem moC_L55_ok : LoopsOK Try.prog moC_L55 := moC_L54_ok
noncomputable def moC_S56 : Sums := moC_S52
theorem moC_S56_ok : SumOK Try.prog moC_S56 := moC_S52_ok
noncomputable def moC_L57 : FuncId → Loops := moC_L55
set_option maxRecDepth 100000 in
set_option maxHeartbeats 4000000 in
theorem moC_L57_ok : LoopsOK Try.prog moC_L57 := moC_L55_ok
noncomputable def moC_L58 : FuncId → Loops := moC_L57
set_option maxRecDepth 100000 in
set_option maxHeartbeats 4000000 in
theorem moC_L58_ok : LoopsOK Try.prog moC_L58 := moC_L57_ok
noncomputable def moC_L59 : FuncId → Loops := moC_L58
set_option maxRecDepth 100000 in
set_option maxHeartbeats 4000000 in
theorem moC_L59_ok : LoopsOK Try.prog moC_L59 := moC_L58_ok
noncomputable def moC_S60 : Sums := moC_S56
theorem moC_S60_ok : SumOK Try.prog moC_S60 := moC_S56_ok
end Go.Proofs.Ytdoodmapmhibhaa
