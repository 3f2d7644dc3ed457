/-
  Texts in one: MoD, MoF.
-/
import Derived.Test.YtdoodmapmhibhaaProg
import Derived.Test.YtdoodmapmhibhaaFvX
import Derived.Test.YtdoodmapmhibhaaFvZ
import Derived.Test.YtdoodmapmhibhaaAut
import Derived.Test.YtdoodmapmhibhaaRd
import Derived.Test.YtdoodmapmhibhaaPl
import Derived.Test.YtdoodmapmhibhaaScn
import Derived.Test.YtdoodmapmhibhaaRegM
import Derived.Test.YtdoodmapmhibhaaMor
import Derived.Test.YtdoodmapmhibhaaRgA
import Derived.Test.YtdoodmapmhibhaaRgB
import Derived.Test.YtdoodmapmhibhaaRgC
import Derived.Test.YtdoodmapmhibhaaRgD
import Derived.Test.YtdoodmapmhibhaaMoB
import Derived.Test.YtdoodmapmhibhaaMoC
namespace Go.Proofs.Ytdoodmapmhibhaa
open Go
abbrev rwD_U : Type := Int × Int × (Ty.list (.prod (.int .i64) (.list (.prod (.int .i64) (.int .i64))))).den × Int × (Ty.list (.prod (.int .i64) (.list (.prod (.int .i64) (.int .i64))))).den × Int
noncomputable def rwD_St (u : rwD_U) (v : wiD1_V) : Stt := ⟨[.one .junk, .one .junk, .one .junk, .one .junk, .one .junk, .one .junk, .one (.v false (Value.slice none (0 : Nat) (0 : Nat))), .one (.v false (.int .i64 u.1)), .one .junk, .one .junk, .one .junk, .one (.v false (.int .i64 u.2.1)), .one (.s false 7035 0 (none)), .one .junk, .one .junk, .one .junk, .one .junk, .one .junk, .one .junk, .one .junk, .one .junk, .one .junk, .one .junk, .one .junk, .one .junk, .one .junk, .one .junk, .one .junk, .one .junk, .one .junk, .one .junk, .one .junk, .one .junk, .one .junk, .one .junk, .one .junk, .one .junk, .one .junk, .one .junk, .one .junk, .one .junk, .one .junk, .one (.d false false (.prod (.int .i64) (.list (.prod (.int .i64) (.int .i64)))) u.2.2.1), .one (.v false (.int .i64 u.2.2.2.1)), .one (.v false (.int .i64 v.1)), .one .junk, .one .junk, .one .junk, .one .junk, .one .junk, .one .junk, .one .junk, .one .junk, .one .junk, .one .junk, .one .junk, .one .junk, .one .junk, .one .junk, .one .junk], [(7035, .row true false false 45 (.list (.prod (.int .i64) (.int .i64))) v.2), (7011, .dead), (7010, .dead), (7001, .dead), (7000, .dead), (2, .cells [.v false (Value.slice none (0 : Nat) (0 : Nat))]), (1, .cells [.d false false (.prod (.int .i64) (.list (.prod (.int .i64) (.int .i64)))) u.2.2.2.2.1]), (0, .cells [.fn 71 [], .fn 65 [], .v false (.int .i64 u.2.2.2.2.2)])], 8041⟩
noncomputable def rwD_step (u : rwD_U) (v : wiD1_V) : Tr (wiD1_V ⊕ (Nat × wiD1_V)) :=
  match u, v with
  | (_, q1, q2, q3, _, _), (q4, q5) => .br (decide (q4 < q3)) (.br (decide ((0 : Int) ≤ q4) && decide (q4 < (↑(List.length q2) : Int))) (.br (decide (List.length (Prod.snd (el_ilii q2 q4)) * (16 : Nat) ≤ maxNew) && decide (List.length (Prod.snd (el_ilii q2 q4)) ≤ maxLen)) (.br (decide ((0 : Int) ≤ IntKind.wrap .i64 (Prod.fst (el_ilii q2 q4) - q1)) && decide (IntKind.wrap .i64 (Prod.fst (el_ilii q2 q4) - q1) < (↑(List.length q5) : Int))) (.br (decide (Int.toNat (IntKind.wrap .i64 (Prod.fst (el_ilii q2 q4) - q1)) < List.length q5)) (.ret (.inl (IntKind.wrap .i64 (q4 + (1 : Int)), List.set q5 (Int.toNat (IntKind.wrap .i64 (Prod.fst (el_ilii q2 q4) - q1))) (Prod.snd (el_ilii q2 q4))))) (.bad 19)) (.bad 31)) (.bad 74)) (.bad 29)) (.ret (.inr (0, (q4, q5))))
set_option maxRecDepth 100000 in
set_option maxHeartbeats 4000000 in
theorem rwD_step_eq : ∀ (u : rwD_U) (v : wiD1_V), (evalC Try.prog (evalB Try.prog moC_S60 (opens [72]) moC_L59 7).1 (evalB Try.prog moC_S60 (opens [72]) moC_L59 7).2 (opens [72]) (moC_L59 72) 100000 (0 :: [0, 1, 0, 1, 1, 1, 1, 1]) (loopOf (bodyOf Try.prog 72) [1, 1, 1, 1, 1, 0, 1, 0]) (rwD_St u v) []).bind (finF [0, 1, 2, 3, 4, 5, 8, 9, 10, 13, 14, 15, 16, 17, 18, 19, 20, 21, 22, 23, 24, 25, 26, 27, 28, 29, 30, 31, 32, 33, 34, 35, 36, 37, 38, 39, 40, 41, 45, 46, 47, 48, 49, 50, 51, 52, 53, 54, 55, 56, 57, 58, 59] [] [7035, 7011, 7010, 7001, 7000, 2, 1, 0] [7011, 7010, 7001, 7000] 8041) = (rwD_step u v).bind (outA (rwD_St u) [.exit 0]) := by
  rintro ⟨q0, q1, q2, q3, q6, q7⟩ ⟨q4, q5⟩
  kernel_rfl
noncomputable def rwD_rd (b : Bool) (o6 : Option AV) (o7 : Option AV) (o11 : Option AV) (o12 : Option AV) (o42 : Option AV) (o43 : Option AV) (o44 : Option AV) (own : Own) : Option (rwD_U × wiD1_V) := zrT b <| zrO o6 fun za1 => zrA1 za1 fun zc2 => zrNil zc2 <| zrO o7 fun za3 => zrA1 za3 fun zc4 => zrI .i64 zc4 fun q0 => zrO o11 fun za5 => zrA1 za5 fun zc6 => zrI .i64 zc6 fun q1 => zrO o12 fun za7 => zrA1 za7 fun zc8 => zrSl 7035 0 (none) zc8 <| zrO o42 fun za9 => zrA1 za9 fun zc10 => zrD (.prod (.int .i64) (.list (.prod (.int .i64) (.int .i64)))) zc10 fun q2 => zrO o43 fun za11 => zrA1 za11 fun zc12 => zrI .i64 zc12 fun q3 => zrO o44 fun za13 => zrA1 za13 fun zc14 => zrI .i64 zc14 fun q4 => zrL own fun zq15 zw16 => zrKey 7035 zq15 fun zk17 => zrR true 45 (.list (.prod (.int .i64) (.int .i64))) zk17 fun q5 => zrL zw16 fun zq18 zw19 => zrKey 7011 zq18 fun zk20 => zrX zk20 <| zrL zw19 fun zq21 zw22 => zrKey 7010 zq21 fun zk23 => zrX zk23 <| zrL zw22 fun zq24 zw25 => zrKey 7001 zq24 fun zk26 => zrX zk26 <| zrL zw25 fun zq27 zw28 => zrKey 7000 zq27 fun zk29 => zrX zk29 <| zrL zw28 fun zq30 zw31 => zrKey 2 zq30 fun zk32 => zrC zk32 fun zl33 => zrL zl33 fun zc34 zr35 => zrNil zc34 <| zrN zr35 <| zrL zw31 fun zq36 zw37 => zrKey 1 zq36 fun zk38 => zrC zk38 fun zl39 => zrL zl39 fun zc40 zr41 => zrD (.prod (.int .i64) (.list (.prod (.int .i64) (.int .i64)))) zc40 fun q6 => zrN zr41 <| zrL zw37 fun zq42 zw43 => zrKey 0 zq42 fun zk44 => zrC zk44 fun zl45 => zrL zl45 fun zc46 zr47 => zrF 71 [] zc46 <| zrL zr47 fun zc48 zr49 => zrF 65 [] zc48 <| zrL zr49 fun zc50 zr51 => zrI .i64 zc50 fun q7 => zrN zr51 <| zrN zw43 <| some ((q0, q1, q2, q3, q6, q7), (q4, q5))
noncomputable def rwD_can (st : Stt) : Stt := canA [0, 1, 2, 3, 4, 5, 8, 9, 10, 13, 14, 15, 16, 17, 18, 19, 20, 21, 22, 23, 24, 25, 26, 27, 28, 29, 30, 31, 32, 33, 34, 35, 36, 37, 38, 39, 40, 41, 45, 46, 47, 48, 49, 50, 51, 52, 53, 54, 55, 56, 57, 58, 59] [] [7035, 7011, 7010, 7001, 7000, 2, 1, 0] [7011, 7010, 7001, 7000] 8041 st
noncomputable def rwD_cok (st : Stt) : Bool := canAok [0, 1, 2, 3, 4, 5, 8, 9, 10, 13, 14, 15, 16, 17, 18, 19, 20, 21, 22, 23, 24, 25, 26, 27, 28, 29, 30, 31, 32, 33, 34, 35, 36, 37, 38, 39, 40, 41, 45, 46, 47, 48, 49, 50, 51, 52, 53, 54, 55, 56, 57, 58, 59] [] [7035, 7011, 7010, 7001, 7000, 2, 1, 0] [7011, 7010, 7001, 7000] 8041 st
noncomputable def rwD_read (st : Stt) : Option (rwD_U × wiD1_V) := rwD_rd (rwD_cok st && (staysA [] [7035, 7011, 7010, 7001, 7000, 2, 1, 0] st.own && juAll [0, 1, 2, 3, 4, 5, 8, 9, 10, 13, 14, 15, 16, 17, 18, 19, 20, 21, 22, 23, 24, 25, 26, 27, 28, 29, 30, 31, 32, 33, 34, 35, 36, 37, 38, 39, 40, 41, 45, 46, 47, 48, 49, 50, 51, 52, 53, 54, 55, 56, 57, 58, 59] (rwD_can st).tm 60)) (rwD_can st).tm[6]? (rwD_can st).tm[7]? (rwD_can st).tm[11]? (rwD_can st).tm[12]? (rwD_can st).tm[42]? (rwD_can st).tm[43]? (rwD_can st).tm[44]? (rwD_can st).own
set_option maxRecDepth 100000 in
set_option maxHeartbeats 4000000 in
theorem rwD_rd_ok {b : Bool} {tm : List AV} {own : Own} {u : rwD_U} {v : wiD1_V} (hj : b = true → juAll [0, 1, 2, 3, 4, 5, 8, 9, 10, 13, 14, 15, 16, 17, 18, 19, 20, 21, 22, 23, 24, 25, 26, 27, 28, 29, 30, 31, 32, 33, 34, 35, 36, 37, 38, 39, 40, 41, 45, 46, 47, 48, 49, 50, 51, 52, 53, 54, 55, 56, 57, 58, 59] tm 60 = true) (h : rwD_rd b tm[6]? tm[7]? tm[11]? tm[12]? tm[42]? tm[43]? tm[44]? own = some (u, v)) : b = true ∧ tm = (rwD_St u v).tm ∧ own = (rwD_St u v).own := by
  unfold rwD_rd at h
  obtain ⟨rfl, h0⟩ := zrT_some h
  obtain ⟨za1, e6, h1⟩ := zrO_some h0
  obtain ⟨zc2, rfl, h2⟩ := zrA1_some h1
  obtain ⟨rfl, h3⟩ := zrNil_some h2
  obtain ⟨za3, e7, h4⟩ := zrO_some h3
  obtain ⟨zc4, rfl, h5⟩ := zrA1_some h4
  obtain ⟨q0, rfl, h6⟩ := zrI_some h5
  obtain ⟨za5, e11, h7⟩ := zrO_some h6
  obtain ⟨zc6, rfl, h8⟩ := zrA1_some h7
  obtain ⟨q1, rfl, h9⟩ := zrI_some h8
  obtain ⟨za7, e12, h10⟩ := zrO_some h9
  obtain ⟨zc8, rfl, h11⟩ := zrA1_some h10
  obtain ⟨rfl, h12⟩ := zrSl_some h11
  obtain ⟨za9, e42, h13⟩ := zrO_some h12
  obtain ⟨zc10, rfl, h14⟩ := zrA1_some h13
  obtain ⟨q2, rfl, h15⟩ := zrD_some h14
  obtain ⟨za11, e43, h16⟩ := zrO_some h15
  obtain ⟨zc12, rfl, h17⟩ := zrA1_some h16
  obtain ⟨q3, rfl, h18⟩ := zrI_some h17
  obtain ⟨za13, e44, h19⟩ := zrO_some h18
  obtain ⟨zc14, rfl, h20⟩ := zrA1_some h19
  obtain ⟨q4, rfl, h21⟩ := zrI_some h20
  obtain ⟨zq15, zw16, rfl, h22⟩ := zrL_some h21
  obtain ⟨zk17, rfl, h23⟩ := zrKey_some h22
  obtain ⟨q5, rfl, h24⟩ := zrR_some h23
  obtain ⟨zq18, zw19, rfl, h25⟩ := zrL_some h24
  obtain ⟨zk20, rfl, h26⟩ := zrKey_some h25
  obtain ⟨rfl, h27⟩ := zrX_some h26
  obtain ⟨zq21, zw22, rfl, h28⟩ := zrL_some h27
  obtain ⟨zk23, rfl, h29⟩ := zrKey_some h28
  obtain ⟨rfl, h30⟩ := zrX_some h29
  obtain ⟨zq24, zw25, rfl, h31⟩ := zrL_some h30
  obtain ⟨zk26, rfl, h32⟩ := zrKey_some h31
  obtain ⟨rfl, h33⟩ := zrX_some h32
  obtain ⟨zq27, zw28, rfl, h34⟩ := zrL_some h33
  obtain ⟨zk29, rfl, h35⟩ := zrKey_some h34
  obtain ⟨rfl, h36⟩ := zrX_some h35
  obtain ⟨zq30, zw31, rfl, h37⟩ := zrL_some h36
  obtain ⟨zk32, rfl, h38⟩ := zrKey_some h37
  obtain ⟨zl33, rfl, h39⟩ := zrC_some h38
  obtain ⟨zc34, zr35, rfl, h40⟩ := zrL_some h39
  obtain ⟨rfl, h41⟩ := zrNil_some h40
  obtain ⟨rfl, h42⟩ := zrN_some h41
  obtain ⟨zq36, zw37, rfl, h43⟩ := zrL_some h42
  obtain ⟨zk38, rfl, h44⟩ := zrKey_some h43
  obtain ⟨zl39, rfl, h45⟩ := zrC_some h44
  obtain ⟨zc40, zr41, rfl, h46⟩ := zrL_some h45
  obtain ⟨q6, rfl, h47⟩ := zrD_some h46
  obtain ⟨rfl, h48⟩ := zrN_some h47
  obtain ⟨zq42, zw43, rfl, h49⟩ := zrL_some h48
  obtain ⟨zk44, rfl, h50⟩ := zrKey_some h49
  obtain ⟨zl45, rfl, h51⟩ := zrC_some h50
  obtain ⟨zc46, zr47, rfl, h52⟩ := zrL_some h51
  obtain ⟨rfl, h53⟩ := zrF_some h52
  obtain ⟨zc48, zr49, rfl, h54⟩ := zrL_some h53
  obtain ⟨rfl, h55⟩ := zrF_some h54
  obtain ⟨zc50, zr51, rfl, h56⟩ := zrL_some h55
  obtain ⟨q7, rfl, h57⟩ := zrI_some h56
  obtain ⟨rfl, h58⟩ := zrN_some h57
  obtain ⟨rfl, h59⟩ := zrN_some h58
  have h := Option.some.inj h59
  have hu := congrArg Prod.fst h
  have hv := congrArg Prod.snd h
  dsimp only at hu hv
  subst hu
  subst hv
  exact ⟨rfl, (tm_fill (hj rfl) (Lv := [(6, .one (.v false (Value.slice none (0 : Nat) (0 : Nat)))), (7, .one (.v false (.int .i64 q0))), (11, .one (.v false (.int .i64 q1))), (12, .one (.s false 7035 0 (none))), (42, .one (.d false false (.prod (.int .i64) (.list (.prod (.int .i64) (.int .i64)))) q2)), (43, .one (.v false (.int .i64 q3))), (44, .one (.v false (.int .i64 q4)))]) (by kernel_rfl) ⟨e6, e7, e11, e12, e42, e43, e44, trivial⟩).trans (by kernel_rfl), rfl⟩
theorem rwD_read_ok (st : Stt) (u : rwD_U) (v : wiD1_V) (h : rwD_read st = some (u, v)) : rwD_cok st = true ∧ staysA [] [7035, 7011, 7010, 7001, 7000, 2, 1, 0] st.own = true ∧ rwD_can st = rwD_St u v := by
  obtain ⟨h1, h2, h3⟩ := rwD_rd_ok (fun hb => by rw [Bool.and_eq_true, Bool.and_eq_true] at hb; exact hb.2.2) h
  rw [Bool.and_eq_true, Bool.and_eq_true] at h1
  refine ⟨h1.1, h1.2.1, ?_⟩
  have e : rwD_can st = ⟨(rwD_can st).tm, (rwD_can st).own, 8041⟩ := by kernel_rfl
  rw [e, h2, h3]
  rfl
noncomputable def rwD_cond (u : rwD_U) (v : wiD1_V) : Bool := runC (rwD_step u) v
noncomputable def rwD_g (u : rwD_U) (v : wiD1_V) : Nat × wiD1_V := runG (rwD_step u) v
theorem rwD_hg : ∀ (u : rwD_U) (v : wiD1_V), rwD_cond u v = true → loopN (rwD_step u) ((fun u v => runF (rwD_step u) v) u v) v = some (rwD_g u v) := by
  exact fun u v h => run_hg h
noncomputable def rwD_m (st : Stt) : Option (Tr (Ex × Stt)) := sumM rwD_read rwD_cond rwD_St rwD_g [(0, .exit 0)] st
noncomputable def moD_L51 : FuncId → Loops := addL 72 [0, 1, 0, 1, 1, 1, 1, 1] rwD_m moC_L59
set_option maxRecDepth 100000 in
set_option maxHeartbeats 4000000 in
theorem moD_L51_ok : LoopsOK Try.prog moD_L51 :=
  loop_sumF (body := (bodyOf Try.prog 72)) (c := (loopOf (bodyOf Try.prog 72) [1, 1, 1, 1, 1, 0, 1, 0])) (kinds := [.exit 0]) (allow := [(0, .exit 0)]) (St := rwD_St) (step := rwD_step) (W := [0, 1, 2, 3, 4, 5, 8, 9, 10, 13, 14, 15, 16, 17, 18, 19, 20, 21, 22, 23, 24, 25, 26, 27, 28, 29, 30, 31, 32, 33, 34, 35, 36, 37, 38, 39, 40, 41, 45, 46, 47, 48, 49, 50, 51, 52, 53, 54, 55, 56, 57, 58, 59]) (As := []) (ks := [7035, 7011, 7010, 7001, 7000, 2, 1, 0]) (dd := [7011, 7010, 7001, 7000]) (nx := 8041) (n := 100000) (g := rwD_g) (cond := rwD_cond) (fuel := (fun u v => runF (rwD_step u) v)) (read := rwD_read) (by kernel_rfl) (moC_S60_ok) (moC_L59_ok) 7 ⟨Try.f72, by kernel_rfl, by kernel_rfl⟩ (by kernel_rfl) (by kernel_rfl) (by kernel_rfl) rwD_step_eq rwD_hg rwD_read_ok
theorem rwD_run {R : Rg} {F ro : Int} {N : Nat} (h : valG R) (hN : N ≤ 20000) (hb : ∀ r ∈ R, F ≤ r.1 ∧ r.1 < F + (N : Int)) (hF : -100000 ≤ F ∧ F ≤ 100000) : rwD_cond (0, F, R, (R.length : Int), R, ro) (0, List.replicate N []) = true ∧ rwD_g (0, F, R, (R.length : Int), R, ro) (0, List.replicate N []) = (0, ((R.length : Int), tab N fun i => rowY R (F + (i : Int)))) := by
  have R1 := run_steps (step := rwD_step (0, F, R, (R.length : Int), R, ro)) (St := fun j => ((j : Int), tab N fun i => rowY (R.take j) (F + (i : Int)))) (n := R.length) (t := (0, ((R.length : Int), tab N fun i => rowY R (F + (i : Int))))) (by
    simp only [rwD_step, Tr.val, Int.lt_irrefl, decide_false, cond_false, List.take_length]) R.length 0 (Nat.zero_add _) (fun j _ hj => by
    have hr := hb _ (List.getElem_mem hj)
    have hl := row_len (Ng.rows h _ (List.getElem_mem hj))
    obtain ⟨r1, r2⟩ := room16 (n := R[j].2.length) (by omega)
    have w1 : IntKind.wrap .i64 (R[j].1 - F) = (((R[j].1 - F).toNat : Nat) : Int) := by rw [wid (by omega) (by omega)]; omega
    have c1 : decide ((((R[j].1 - F).toNat : Nat) : Int) < (N : Int)) = true := decide_eq_true (by omega)
    have c2 : decide ((R[j].1 - F).toNat < N) = true := decide_eq_true (by omega)
    have et : (tab N fun i => if i = (R[j].1 - F).toNat then R[j].2 else rowY (R.take j) (F + (i : Int))) = tab N fun i => rowY (R.take (j + 1)) (F + (i : Int)) := tab_congr fun i hi => by
      rw [rowY_take hj]
      by_cases g : i = (R[j].1 - F).toNat
      · rw [if_pos g, if_pos (by omega)]
      · rw [if_neg g, if_neg (by omega)]
    simp only [rwD_step, Tr.val, lt_t hj, nn_t, el_g hj, r1, r2, w1, c1, c2, tab_length, tab_set, et, Int.toNat_natCast, wi1 hj (show (R.length : Int) ≤ 9223372036854775806 by have := ng_len h (by omega); omega), Bool.and_self, cond_true])
  have e0 : (tab N fun i => rowY (R.take 0) (F + (i : Int))) = List.replicate N [] := (tab_rep N ([] : Rl)).symm
  simp only [e0] at R1
  exact R1
abbrev sqD_U : Type := Int × Int × Int × Int
noncomputable def moD_L52 : FuncId → Loops := moD_L51
set_option maxRecDepth 100000 in
set_option maxHeartbeats 4000000 in
theorem moD_L52_ok : LoopsOK Try.prog moD_L52 := moD_L51_ok
noncomputable def moD_S53 : Sums := moC_S60
theorem moD_S53_ok : SumOK Try.prog moD_S53 := moC_S60_ok
noncomputable def rwE_St (u : rwD_U) (v : wiD1_V) : Stt := ⟨[.one .junk, .one .junk, .one .junk, .one .junk, .one .junk, .one .junk, .one (.v false (Value.slice none (0 : Nat) (0 : Nat))), .one (.v false (.int .i64 u.1)), .one .junk, .one .junk, .one .junk, .one (.v false (.int .i64 u.2.1)), .one (.s false 7035 0 (none)), .one .junk, .one .junk, .one .junk, .one .junk, .one .junk, .one .junk, .one .junk, .one .junk, .one .junk, .one .junk, .one .junk, .one .junk, .one .junk, .one .junk, .one .junk, .one .junk, .one .junk, .one .junk, .one .junk, .one .junk, .one .junk, .one .junk, .one .junk, .one .junk, .one .junk, .one .junk, .one .junk, .one .junk, .one .junk, .one (.d false false (.prod (.int .i64) (.list (.prod (.int .i64) (.int .i64)))) u.2.2.1), .one (.v false (.int .i64 u.2.2.2.1)), .one (.v false (.int .i64 v.1)), .one .junk, .one .junk, .one .junk, .one .junk, .one .junk, .one .junk, .one .junk, .one .junk, .one .junk, .one .junk, .one .junk, .one .junk, .one .junk, .one .junk, .one .junk], [(7035, .row true false false 45 (.list (.prod (.int .i64) (.int .i64))) v.2), (7011, .dead), (7010, .dead), (7001, .dead), (7000, .dead), (2, .cells [.v false (Value.slice none (0 : Nat) (0 : Nat))]), (1, .cells [.d false false (.prod (.int .i64) (.list (.prod (.int .i64) (.int .i64)))) u.2.2.2.2.1]), (0, .cells [.fn 78 [], .fn 66 [], .v false (.int .i64 u.2.2.2.2.2)])], 8041⟩
set_option maxRecDepth 100000 in
set_option maxHeartbeats 4000000 in
theorem rwE_step_eq : ∀ (u : rwD_U) (v : wiD1_V), (evalC Try.prog (evalB Try.prog moD_S53 (opens [72]) moD_L52 7).1 (evalB Try.prog moD_S53 (opens [72]) moD_L52 7).2 (opens [72]) (moD_L52 72) 100000 (0 :: [0, 1, 0, 1, 1, 1, 1, 1]) (loopOf (bodyOf Try.prog 72) [1, 1, 1, 1, 1, 0, 1, 0]) (rwE_St u v) []).bind (finF [0, 1, 2, 3, 4, 5, 8, 9, 10, 13, 14, 15, 16, 17, 18, 19, 20, 21, 22, 23, 24, 25, 26, 27, 28, 29, 30, 31, 32, 33, 34, 35, 36, 37, 38, 39, 40, 41, 45, 46, 47, 48, 49, 50, 51, 52, 53, 54, 55, 56, 57, 58, 59] [] [7035, 7011, 7010, 7001, 7000, 2, 1, 0] [7011, 7010, 7001, 7000] 8041) = (rwD_step u v).bind (outA (rwE_St u) [.exit 0]) := by
  rintro ⟨q0, q1, q2, q3, q6, q7⟩ ⟨q4, q5⟩
  kernel_rfl
noncomputable def rwE_rd (b : Bool) (o6 : Option AV) (o7 : Option AV) (o11 : Option AV) (o12 : Option AV) (o42 : Option AV) (o43 : Option AV) (o44 : Option AV) (own : Own) : Option (rwD_U × wiD1_V) := zrT b <| zrO o6 fun za1 => zrA1 za1 fun zc2 => zrNil zc2 <| zrO o7 fun za3 => zrA1 za3 fun zc4 => zrI .i64 zc4 fun q0 => zrO o11 fun za5 => zrA1 za5 fun zc6 => zrI .i64 zc6 fun q1 => zrO o12 fun za7 => zrA1 za7 fun zc8 => zrSl 7035 0 (none) zc8 <| zrO o42 fun za9 => zrA1 za9 fun zc10 => zrD (.prod (.int .i64) (.list (.prod (.int .i64) (.int .i64)))) zc10 fun q2 => zrO o43 fun za11 => zrA1 za11 fun zc12 => zrI .i64 zc12 fun q3 => zrO o44 fun za13 => zrA1 za13 fun zc14 => zrI .i64 zc14 fun q4 => zrL own fun zq15 zw16 => zrKey 7035 zq15 fun zk17 => zrR true 45 (.list (.prod (.int .i64) (.int .i64))) zk17 fun q5 => zrL zw16 fun zq18 zw19 => zrKey 7011 zq18 fun zk20 => zrX zk20 <| zrL zw19 fun zq21 zw22 => zrKey 7010 zq21 fun zk23 => zrX zk23 <| zrL zw22 fun zq24 zw25 => zrKey 7001 zq24 fun zk26 => zrX zk26 <| zrL zw25 fun zq27 zw28 => zrKey 7000 zq27 fun zk29 => zrX zk29 <| zrL zw28 fun zq30 zw31 => zrKey 2 zq30 fun zk32 => zrC zk32 fun zl33 => zrL zl33 fun zc34 zr35 => zrNil zc34 <| zrN zr35 <| zrL zw31 fun zq36 zw37 => zrKey 1 zq36 fun zk38 => zrC zk38 fun zl39 => zrL zl39 fun zc40 zr41 => zrD (.prod (.int .i64) (.list (.prod (.int .i64) (.int .i64)))) zc40 fun q6 => zrN zr41 <| zrL zw37 fun zq42 zw43 => zrKey 0 zq42 fun zk44 => zrC zk44 fun zl45 => zrL zl45 fun zc46 zr47 => zrF 78 [] zc46 <| zrL zr47 fun zc48 zr49 => zrF 66 [] zc48 <| zrL zr49 fun zc50 zr51 => zrI .i64 zc50 fun q7 => zrN zr51 <| zrN zw43 <| some ((q0, q1, q2, q3, q6, q7), (q4, q5))
noncomputable def rwE_read (st : Stt) : Option (rwD_U × wiD1_V) := rwE_rd (rwD_cok st && (staysA [] [7035, 7011, 7010, 7001, 7000, 2, 1, 0] st.own && juAll [0, 1, 2, 3, 4, 5, 8, 9, 10, 13, 14, 15, 16, 17, 18, 19, 20, 21, 22, 23, 24, 25, 26, 27, 28, 29, 30, 31, 32, 33, 34, 35, 36, 37, 38, 39, 40, 41, 45, 46, 47, 48, 49, 50, 51, 52, 53, 54, 55, 56, 57, 58, 59] (rwD_can st).tm 60)) (rwD_can st).tm[6]? (rwD_can st).tm[7]? (rwD_can st).tm[11]? (rwD_can st).tm[12]? (rwD_can st).tm[42]? (rwD_can st).tm[43]? (rwD_can st).tm[44]? (rwD_can st).own
set_option maxRecDepth 100000 in
set_option maxHeartbeats 4000000 in
theorem rwE_rd_ok {b : Bool} {tm : List AV} {own : Own} {u : rwD_U} {v : wiD1_V} (hj : b = true → juAll [0, 1, 2, 3, 4, 5, 8, 9, 10, 13, 14, 15, 16, 17, 18, 19, 20, 21, 22, 23, 24, 25, 26, 27, 28, 29, 30, 31, 32, 33, 34, 35, 36, 37, 38, 39, 40, 41, 45, 46, 47, 48, 49, 50, 51, 52, 53, 54, 55, 56, 57, 58, 59] tm 60 = true) (h : rwE_rd b tm[6]? tm[7]? tm[11]? tm[12]? tm[42]? tm[43]? tm[44]? own = some (u, v)) : b = true ∧ tm = (rwE_St u v).tm ∧ own = (rwE_St u v).own := by
  unfold rwE_rd at h
  obtain ⟨rfl, h0⟩ := zrT_some h
  obtain ⟨za1, e6, h1⟩ := zrO_some h0
  obtain ⟨zc2, rfl, h2⟩ := zrA1_some h1
  obtain ⟨rfl, h3⟩ := zrNil_some h2
  obtain ⟨za3, e7, h4⟩ := zrO_some h3
  obtain ⟨zc4, rfl, h5⟩ := zrA1_some h4
  obtain ⟨q0, rfl, h6⟩ := zrI_some h5
  obtain ⟨za5, e11, h7⟩ := zrO_some h6
  obtain ⟨zc6, rfl, h8⟩ := zrA1_some h7
  obtain ⟨q1, rfl, h9⟩ := zrI_some h8
  obtain ⟨za7, e12, h10⟩ := zrO_some h9
  obtain ⟨zc8, rfl, h11⟩ := zrA1_some h10
  obtain ⟨rfl, h12⟩ := zrSl_some h11
  obtain ⟨za9, e42, h13⟩ := zrO_some h12
  obtain ⟨zc10, rfl, h14⟩ := zrA1_some h13
  obtain ⟨q2, rfl, h15⟩ := zrD_some h14
  obtain ⟨za11, e43, h16⟩ := zrO_some h15
  obtain ⟨zc12, rfl, h17⟩ := zrA1_some h16
  obtain ⟨q3, rfl, h18⟩ := zrI_some h17
  obtain ⟨za13, e44, h19⟩ := zrO_some h18
  obtain ⟨zc14, rfl, h20⟩ := zrA1_some h19
  obtain ⟨q4, rfl, h21⟩ := zrI_some h20
  obtain ⟨zq15, zw16, rfl, h22⟩ := zrL_some h21
  obtain ⟨zk17, rfl, h23⟩ := zrKey_some h22
  obtain ⟨q5, rfl, h24⟩ := zrR_some h23
  obtain ⟨zq18, zw19, rfl, h25⟩ := zrL_some h24
  obtain ⟨zk20, rfl, h26⟩ := zrKey_some h25
  obtain ⟨rfl, h27⟩ := zrX_some h26
  obtain ⟨zq21, zw22, rfl, h28⟩ := zrL_some h27
  obtain ⟨zk23, rfl, h29⟩ := zrKey_some h28
  obtain ⟨rfl, h30⟩ := zrX_some h29
  obtain ⟨zq24, zw25, rfl, h31⟩ := zrL_some h30
  obtain ⟨zk26, rfl, h32⟩ := zrKey_some h31
  obtain ⟨rfl, h33⟩ := zrX_some h32
  obtain ⟨zq27, zw28, rfl, h34⟩ := zrL_some h33
  obtain ⟨zk29, rfl, h35⟩ := zrKey_some h34
  obtain ⟨rfl, h36⟩ := zrX_some h35
  obtain ⟨zq30, zw31, rfl, h37⟩ := zrL_some h36
  obtain ⟨zk32, rfl, h38⟩ := zrKey_some h37
  obtain ⟨zl33, rfl, h39⟩ := zrC_some h38
  obtain ⟨zc34, zr35, rfl, h40⟩ := zrL_some h39
  obtain ⟨rfl, h41⟩ := zrNil_some h40
  obtain ⟨rfl, h42⟩ := zrN_some h41
  obtain ⟨zq36, zw37, rfl, h43⟩ := zrL_some h42
  obtain ⟨zk38, rfl, h44⟩ := zrKey_some h43
  obtain ⟨zl39, rfl, h45⟩ := zrC_some h44
  obtain ⟨zc40, zr41, rfl, h46⟩ := zrL_some h45
  obtain ⟨q6, rfl, h47⟩ := zrD_some h46
  obtain ⟨rfl, h48⟩ := zrN_some h47
  obtain ⟨zq42, zw43, rfl, h49⟩ := zrL_some h48
  obtain ⟨zk44, rfl, h50⟩ := zrKey_some h49
  obtain ⟨zl45, rfl, h51⟩ := zrC_some h50
  obtain ⟨zc46, zr47, rfl, h52⟩ := zrL_some h51
  obtain ⟨rfl, h53⟩ := zrF_some h52
  obtain ⟨zc48, zr49, rfl, h54⟩ := zrL_some h53
  obtain ⟨rfl, h55⟩ := zrF_some h54
  obtain ⟨zc50, zr51, rfl, h56⟩ := zrL_some h55
  obtain ⟨q7, rfl, h57⟩ := zrI_some h56
  obtain ⟨rfl, h58⟩ := zrN_some h57
  obtain ⟨rfl, h59⟩ := zrN_some h58
  have h := Option.some.inj h59
  have hu := congrArg Prod.fst h
  have hv := congrArg Prod.snd h
  dsimp only at hu hv
  subst hu
  subst hv
  exact ⟨rfl, (tm_fill (hj rfl) (Lv := [(6, .one (.v false (Value.slice none (0 : Nat) (0 : Nat)))), (7, .one (.v false (.int .i64 q0))), (11, .one (.v false (.int .i64 q1))), (12, .one (.s false 7035 0 (none))), (42, .one (.d false false (.prod (.int .i64) (.list (.prod (.int .i64) (.int .i64)))) q2)), (43, .one (.v false (.int .i64 q3))), (44, .one (.v false (.int .i64 q4)))]) (by kernel_rfl) ⟨e6, e7, e11, e12, e42, e43, e44, trivial⟩).trans (by kernel_rfl), rfl⟩
theorem rwE_read_ok (st : Stt) (u : rwD_U) (v : wiD1_V) (h : rwE_read st = some (u, v)) : rwD_cok st = true ∧ staysA [] [7035, 7011, 7010, 7001, 7000, 2, 1, 0] st.own = true ∧ rwD_can st = rwE_St u v := by
  obtain ⟨h1, h2, h3⟩ := rwE_rd_ok (fun hb => by rw [Bool.and_eq_true, Bool.and_eq_true] at hb; exact hb.2.2) h
  rw [Bool.and_eq_true, Bool.and_eq_true] at h1
  refine ⟨h1.1, h1.2.1, ?_⟩
  have e : rwD_can st = ⟨(rwD_can st).tm, (rwD_can st).own, 8041⟩ := by kernel_rfl
  rw [e, h2, h3]
  rfl
noncomputable def rwE_m (st : Stt) : Option (Tr (Ex × Stt)) := sumM rwE_read rwD_cond rwE_St rwD_g [(0, .exit 0)] st
noncomputable def moD_L54 : FuncId → Loops := addL 72 [0, 1, 0, 1, 1, 1, 1, 1] rwE_m moD_L52
set_option maxRecDepth 100000 in
set_option maxHeartbeats 4000000 in
theorem moD_L54_ok : LoopsOK Try.prog moD_L54 :=
  loop_sumF (body := (bodyOf Try.prog 72)) (c := (loopOf (bodyOf Try.prog 72) [1, 1, 1, 1, 1, 0, 1, 0])) (kinds := [.exit 0]) (allow := [(0, .exit 0)]) (St := rwE_St) (step := rwD_step) (W := [0, 1, 2, 3, 4, 5, 8, 9, 10, 13, 14, 15, 16, 17, 18, 19, 20, 21, 22, 23, 24, 25, 26, 27, 28, 29, 30, 31, 32, 33, 34, 35, 36, 37, 38, 39, 40, 41, 45, 46, 47, 48, 49, 50, 51, 52, 53, 54, 55, 56, 57, 58, 59]) (As := []) (ks := [7035, 7011, 7010, 7001, 7000, 2, 1, 0]) (dd := [7011, 7010, 7001, 7000]) (nx := 8041) (n := 100000) (g := rwD_g) (cond := rwD_cond) (fuel := (fun u v => runF (rwD_step u) v)) (read := rwE_read) (by kernel_rfl) (moD_S53_ok) (moD_L52_ok) 7 ⟨Try.f72, by kernel_rfl, by kernel_rfl⟩ (by kernel_rfl) (by kernel_rfl) (by kernel_rfl) rwE_step_eq rwD_hg rwE_read_ok
noncomputable def moD_L55 : FuncId → Loops := moD_L54
set_option maxRecDepth 100000 in
set_option maxHeartbeats 4000000 in
theorem moD_L55_ok : LoopsOK Try.prog moD_L55 := moD_L54_ok
noncomputable def moD_S56 : Sums := moD_S53
theorem moD_S56_ok : SumOK Try.prog moD_S56 := moD_S53_ok
noncomputable def dlG (R : Rg) (k : Int) : Rg := bif rchB k && valGB R && fitB R k then sqG true R k else []
theorem rch_iff {k : Int} : rchB k = true ↔ 0 ≤ k ∧ k ≤ 64 := by unfold rchB; rw [Bool.and_eq_true, decide_eq_true_eq, decide_eq_true_eq]
theorem fitB_iff {R : Rg} {k : Int} : fitB R k = true ↔ fitsG R k := by unfold fitB; simp
noncomputable def moD_S57 : Sums := moD_S56
theorem moD_S57_ok : SumOK Try.prog moD_S57 := moD_S56_ok
noncomputable def moD_S58 : Sums := moD_S57
theorem moD_S58_ok : SumOK Try.prog moD_S58 := moD_S57_ok
end Go.Proofs.Ytdoodmapmhibhaa

namespace Go.Proofs.Ytdoodmapmhibhaa
open Go
theorem opq_in (q : Bool) {a b : Bool} {P : Prop} (ha : a = true → P) (hb : b = true → P) (h : opE (anq q) a b = true) : P := by
  cases q
  · exact ha (Bool.and_eq_true _ _ ▸ (show (a && b) = true from h)).1
  · rcases (Bool.or_eq_true _ _ ▸ (show (a || b) = true from h)) with h | h
    · exact ha h
    · exact hb h
theorem wdq_in (q : Bool) {L : Rl} {x : Int} (hb : ∀ x, memB L x = true → -5000 ≤ x ∧ x < 5000) (h : Wd q L 1 x) : -5001 ≤ x ∧ x < 5001 := by
  cases q
  · have := hb _ (h 0 (by omega) (by omega)); omega
  · obtain ⟨s, s0, s1, hs⟩ := h
    have := hb _ hs; omega
abbrev ciD1_U : Type := Int × Int × Int × Int × Int × (Ty.list (.list (.prod (.int .i64) (.int .i64)))).den
noncomputable def ciD1_St (u : ciD1_U) (v : wiD1_V) : Stt := ⟨[.one .junk, .one .junk, .one (.v false (.int .i64 u.1)), .one (.p 0 0), .one .junk, .one .junk, .one (.p 2 0), .one (.s false 980 0 (none)), .one (.v false (.int .i64 u.2.1)), .one (.s false 940 0 (none)), .one (.v false (.int .i64 v.1)), .one .junk, .one .junk, .one .junk, .one .junk, .one .junk, .one .junk, .one .junk, .one (.v false (.int .i64 u.2.2.1)), .one (.v false (.int .i64 u.2.2.2.1)), .one .junk, .one .junk, .one .junk, .one .junk, .one .junk, .one .junk, .one .junk, .one .junk, .one .junk, .one .junk, .one .junk, .one .junk, .one .junk, .one .junk, .one .junk, .one .junk, .one .junk, .one .junk, .one .junk, .one .junk, .one .junk, .one .junk, .one .junk, .one .junk, .one .junk, .one .junk, .one .junk, .one .junk, .one .junk, .one .junk, .one .junk, .one .junk, .one .junk, .one .junk, .one .junk, .one .junk, .one .junk, .one .junk, .one .junk, .one .junk, .one .junk], [(7035, .dead), (7011, .dead), (7010, .dead), (7001, .dead), (7000, .dead), (2, .cells [.v false (Value.slice none (0 : Nat) (0 : Nat))]), (1, .dead), (0, .cells [.fn 71 [], .fn 65 [], .v false (.int .i64 u.2.2.2.2.1)]), (980, .row true false false 45 (.list (.prod (.int .i64) (.int .i64))) u.2.2.2.2.2), (940, .row true false false 45 (.list (.prod (.int .i64) (.int .i64))) v.2)], 2017⟩
noncomputable def ciD1_step (u : ciD1_U) (v : wiD1_V) : Tr (wiD1_V ⊕ (Nat × wiD1_V)) :=
  match u, v with
  | (_, _, _, _, _, q6), (q2, q7) => .br (decide (IntKind.wrap .i64 (q2 + (1 : Int)) < (↑(List.length q6) : Int))) (.br (decide ((0 : Int) ≤ IntKind.wrap .i64 (q2 - (1 : Int))) && decide (IntKind.wrap .i64 (q2 - (1 : Int)) < (↑(List.length q6) : Int))) (.br (decide (Int.toNat (IntKind.wrap .i64 (q2 - (1 : Int))) < List.length q6)) (.br (decide ((0 : Int) ≤ IntKind.wrap .i64 (q2 + (1 : Int))) && decide (IntKind.wrap .i64 (q2 + (1 : Int)) < (↑(List.length q6) : Int))) (.br (decide (Int.toNat (IntKind.wrap .i64 (q2 + (1 : Int))) < List.length q6)) (.br ((decide (List.length (el_lii q6 (IntKind.wrap .i64 (q2 - (1 : Int)))) ≤ (10000 : Nat)) && decide (List.length (el_lii q6 (IntKind.wrap .i64 (q2 + (1 : Int)))) ≤ (10000 : Nat)))) (.br (decide ((0 : Int) ≤ q2) && decide (q2 < (↑(List.length q6) : Int))) (.br (decide (Int.toNat q2 < List.length q6)) (.br (grOk (el_lii q6 q2) (1 : Int)) (.br ((decide (List.length (chL (el_lii q6 (IntKind.wrap .i64 (q2 - (1 : Int)))) (el_lii q6 (IntKind.wrap .i64 (q2 + (1 : Int)))) (2 : Int)) ≤ (10000 : Nat)) && decide (List.length (wdR true (el_lii q6 q2) (1 : Int)) ≤ (10000 : Nat)))) (.br (decide ((List.length q7 + (1 : Nat)) * (24 : Nat) ≤ maxNew) && decide (List.length q7 + (1 : Nat) ≤ maxLen)) (.ret (.inl (IntKind.wrap .i64 (q2 + (1 : Int)), q7 ++ [chL (chL (el_lii q6 (IntKind.wrap .i64 (q2 - (1 : Int)))) (el_lii q6 (IntKind.wrap .i64 (q2 + (1 : Int)))) (2 : Int)) (wdR true (el_lii q6 q2) (1 : Int)) (2 : Int)]))) (.bad 71)) (.bad 116)) (.bad 900)) (.bad 12)) (.bad 31)) (.bad 116)) (.bad 12)) (.bad 31)) (.bad 12)) (.bad 31)) (.ret (.inr (0, (q2, q7))))
set_option maxRecDepth 100000 in
set_option maxHeartbeats 4000000 in
theorem ciD1_step_eq : ∀ (u : ciD1_U) (v : wiD1_V), (evalC Try.prog (evalB Try.prog moD_S58 (opens [72]) moD_L55 7).1 (evalB Try.prog moD_S58 (opens [72]) moD_L55 7).2 (opens [72]) (moD_L55 67) 100000 (0 :: [0, 1, 0, 1, 0, 0, 1, 1, 0, 0, 1, 0, 1, 1]) (loopOf (bodyOf Try.prog 67) [1, 1, 0, 1, 0, 0, 1, 1, 0, 0, 1, 0, 1, 0]) (ciD1_St u v) []).bind (finF [0, 1, 4, 5, 11, 12, 13, 14, 15, 16, 17, 20, 21, 22, 23, 24, 25, 26, 27, 28, 29, 30, 31, 32, 33, 34, 35, 36, 37, 38, 39, 40, 41, 42, 43, 44, 45, 46, 47, 48, 49, 50, 51, 52, 53, 54, 55, 56, 57, 58, 59, 60] [⟨940, some 9, 0, 0, 45, (.list (.prod (.int .i64) (.int .i64)))⟩] [7035, 7011, 7010, 7001, 7000, 2, 1, 0, 980, 940] [7035, 7011, 7010, 7001, 7000, 1, 2047] 2017) = (ciD1_step u v).bind (outA (ciD1_St u) [.exit 2]) := by
  rintro ⟨q0, q1, q3, q4, q5, q6⟩ ⟨q2, q7⟩
  kernel_rfl
noncomputable def ciD1_rd (b : Bool) (o2 : Option AV) (o3 : Option AV) (o6 : Option AV) (o7 : Option AV) (o8 : Option AV) (o9 : Option AV) (o10 : Option AV) (o18 : Option AV) (o19 : Option AV) (own : Own) : Option (ciD1_U × wiD1_V) := zrT b <| zrO o2 fun za1 => zrA1 za1 fun zc2 => zrI .i64 zc2 fun q0 => zrO o3 fun za3 => zrA1 za3 fun zc4 => zrP 0 0 zc4 <| zrO o6 fun za5 => zrA1 za5 fun zc6 => zrP 2 0 zc6 <| zrO o7 fun za7 => zrA1 za7 fun zc8 => zrSl 980 0 (none) zc8 <| zrO o8 fun za9 => zrA1 za9 fun zc10 => zrI .i64 zc10 fun q1 => zrO o9 fun za11 => zrA1 za11 fun zc12 => zrSl 940 0 (none) zc12 <| zrO o10 fun za13 => zrA1 za13 fun zc14 => zrI .i64 zc14 fun q2 => zrO o18 fun za15 => zrA1 za15 fun zc16 => zrI .i64 zc16 fun q3 => zrO o19 fun za17 => zrA1 za17 fun zc18 => zrI .i64 zc18 fun q4 => zrL own fun zq19 zw20 => zrKey 7035 zq19 fun zk21 => zrX zk21 <| zrL zw20 fun zq22 zw23 => zrKey 7011 zq22 fun zk24 => zrX zk24 <| zrL zw23 fun zq25 zw26 => zrKey 7010 zq25 fun zk27 => zrX zk27 <| zrL zw26 fun zq28 zw29 => zrKey 7001 zq28 fun zk30 => zrX zk30 <| zrL zw29 fun zq31 zw32 => zrKey 7000 zq31 fun zk33 => zrX zk33 <| zrL zw32 fun zq34 zw35 => zrKey 2 zq34 fun zk36 => zrC zk36 fun zl37 => zrL zl37 fun zc38 zr39 => zrNil zc38 <| zrN zr39 <| zrL zw35 fun zq40 zw41 => zrKey 1 zq40 fun zk42 => zrX zk42 <| zrL zw41 fun zq43 zw44 => zrKey 0 zq43 fun zk45 => zrC zk45 fun zl46 => zrL zl46 fun zc47 zr48 => zrF 71 [] zc47 <| zrL zr48 fun zc49 zr50 => zrF 65 [] zc49 <| zrL zr50 fun zc51 zr52 => zrI .i64 zc51 fun q5 => zrN zr52 <| zrL zw44 fun zq53 zw54 => zrKey 980 zq53 fun zk55 => zrR true 45 (.list (.prod (.int .i64) (.int .i64))) zk55 fun q6 => zrL zw54 fun zq56 zw57 => zrKey 940 zq56 fun zk58 => zrR true 45 (.list (.prod (.int .i64) (.int .i64))) zk58 fun q7 => zrN zw57 <| some ((q0, q1, q3, q4, q5, q6), (q2, q7))
noncomputable def ciD1_can (st : Stt) : Stt := canA [0, 1, 4, 5, 11, 12, 13, 14, 15, 16, 17, 20, 21, 22, 23, 24, 25, 26, 27, 28, 29, 30, 31, 32, 33, 34, 35, 36, 37, 38, 39, 40, 41, 42, 43, 44, 45, 46, 47, 48, 49, 50, 51, 52, 53, 54, 55, 56, 57, 58, 59, 60] [⟨940, some 9, 0, 0, 45, (.list (.prod (.int .i64) (.int .i64)))⟩] [7035, 7011, 7010, 7001, 7000, 2, 1, 0, 980, 940] [7035, 7011, 7010, 7001, 7000, 1, 2047] 2017 st
noncomputable def ciD1_cok (st : Stt) : Bool := canAok [0, 1, 4, 5, 11, 12, 13, 14, 15, 16, 17, 20, 21, 22, 23, 24, 25, 26, 27, 28, 29, 30, 31, 32, 33, 34, 35, 36, 37, 38, 39, 40, 41, 42, 43, 44, 45, 46, 47, 48, 49, 50, 51, 52, 53, 54, 55, 56, 57, 58, 59, 60] [⟨940, some 9, 0, 0, 45, (.list (.prod (.int .i64) (.int .i64)))⟩] [7035, 7011, 7010, 7001, 7000, 2, 1, 0, 980, 940] [7035, 7011, 7010, 7001, 7000, 1, 2047] 2017 st
noncomputable def ciD1_read (st : Stt) : Option (ciD1_U × wiD1_V) := ciD1_rd (ciD1_cok st && (staysA [⟨940, some 9, 0, 0, 45, (.list (.prod (.int .i64) (.int .i64)))⟩] [7035, 7011, 7010, 7001, 7000, 2, 1, 0, 980, 940] st.own && juAll [0, 1, 4, 5, 11, 12, 13, 14, 15, 16, 17, 20, 21, 22, 23, 24, 25, 26, 27, 28, 29, 30, 31, 32, 33, 34, 35, 36, 37, 38, 39, 40, 41, 42, 43, 44, 45, 46, 47, 48, 49, 50, 51, 52, 53, 54, 55, 56, 57, 58, 59, 60] (ciD1_can st).tm 61)) (ciD1_can st).tm[2]? (ciD1_can st).tm[3]? (ciD1_can st).tm[6]? (ciD1_can st).tm[7]? (ciD1_can st).tm[8]? (ciD1_can st).tm[9]? (ciD1_can st).tm[10]? (ciD1_can st).tm[18]? (ciD1_can st).tm[19]? (ciD1_can st).own
set_option maxRecDepth 100000 in
set_option maxHeartbeats 4000000 in
theorem ciD1_rd_ok {b : Bool} {tm : List AV} {own : Own} {u : ciD1_U} {v : wiD1_V} (hj : b = true → juAll [0, 1, 4, 5, 11, 12, 13, 14, 15, 16, 17, 20, 21, 22, 23, 24, 25, 26, 27, 28, 29, 30, 31, 32, 33, 34, 35, 36, 37, 38, 39, 40, 41, 42, 43, 44, 45, 46, 47, 48, 49, 50, 51, 52, 53, 54, 55, 56, 57, 58, 59, 60] tm 61 = true) (h : ciD1_rd b tm[2]? tm[3]? tm[6]? tm[7]? tm[8]? tm[9]? tm[10]? tm[18]? tm[19]? own = some (u, v)) : b = true ∧ tm = (ciD1_St u v).tm ∧ own = (ciD1_St u v).own := by
  unfold ciD1_rd at h
  obtain ⟨rfl, h0⟩ := zrT_some h
  obtain ⟨za1, e2, h1⟩ := zrO_some h0
  obtain ⟨zc2, rfl, h2⟩ := zrA1_some h1
  obtain ⟨q0, rfl, h3⟩ := zrI_some h2
  obtain ⟨za3, e3, h4⟩ := zrO_some h3
  obtain ⟨zc4, rfl, h5⟩ := zrA1_some h4
  obtain ⟨rfl, h6⟩ := zrP_some h5
  obtain ⟨za5, e6, h7⟩ := zrO_some h6
  obtain ⟨zc6, rfl, h8⟩ := zrA1_some h7
  obtain ⟨rfl, h9⟩ := zrP_some h8
  obtain ⟨za7, e7, h10⟩ := zrO_some h9
  obtain ⟨zc8, rfl, h11⟩ := zrA1_some h10
  obtain ⟨rfl, h12⟩ := zrSl_some h11
  obtain ⟨za9, e8, h13⟩ := zrO_some h12
  obtain ⟨zc10, rfl, h14⟩ := zrA1_some h13
  obtain ⟨q1, rfl, h15⟩ := zrI_some h14
  obtain ⟨za11, e9, h16⟩ := zrO_some h15
  obtain ⟨zc12, rfl, h17⟩ := zrA1_some h16
  obtain ⟨rfl, h18⟩ := zrSl_some h17
  obtain ⟨za13, e10, h19⟩ := zrO_some h18
  obtain ⟨zc14, rfl, h20⟩ := zrA1_some h19
  obtain ⟨q2, rfl, h21⟩ := zrI_some h20
  obtain ⟨za15, e18, h22⟩ := zrO_some h21
  obtain ⟨zc16, rfl, h23⟩ := zrA1_some h22
  obtain ⟨q3, rfl, h24⟩ := zrI_some h23
  obtain ⟨za17, e19, h25⟩ := zrO_some h24
  obtain ⟨zc18, rfl, h26⟩ := zrA1_some h25
  obtain ⟨q4, rfl, h27⟩ := zrI_some h26
  obtain ⟨zq19, zw20, rfl, h28⟩ := zrL_some h27
  obtain ⟨zk21, rfl, h29⟩ := zrKey_some h28
  obtain ⟨rfl, h30⟩ := zrX_some h29
  obtain ⟨zq22, zw23, rfl, h31⟩ := zrL_some h30
  obtain ⟨zk24, rfl, h32⟩ := zrKey_some h31
  obtain ⟨rfl, h33⟩ := zrX_some h32
  obtain ⟨zq25, zw26, rfl, h34⟩ := zrL_some h33
  obtain ⟨zk27, rfl, h35⟩ := zrKey_some h34
  obtain ⟨rfl, h36⟩ := zrX_some h35
  obtain ⟨zq28, zw29, rfl, h37⟩ := zrL_some h36
  obtain ⟨zk30, rfl, h38⟩ := zrKey_some h37
  obtain ⟨rfl, h39⟩ := zrX_some h38
  obtain ⟨zq31, zw32, rfl, h40⟩ := zrL_some h39
  obtain ⟨zk33, rfl, h41⟩ := zrKey_some h40
  obtain ⟨rfl, h42⟩ := zrX_some h41
  obtain ⟨zq34, zw35, rfl, h43⟩ := zrL_some h42
  obtain ⟨zk36, rfl, h44⟩ := zrKey_some h43
  obtain ⟨zl37, rfl, h45⟩ := zrC_some h44
  obtain ⟨zc38, zr39, rfl, h46⟩ := zrL_some h45
  obtain ⟨rfl, h47⟩ := zrNil_some h46
  obtain ⟨rfl, h48⟩ := zrN_some h47
  obtain ⟨zq40, zw41, rfl, h49⟩ := zrL_some h48
  obtain ⟨zk42, rfl, h50⟩ := zrKey_some h49
  obtain ⟨rfl, h51⟩ := zrX_some h50
  obtain ⟨zq43, zw44, rfl, h52⟩ := zrL_some h51
  obtain ⟨zk45, rfl, h53⟩ := zrKey_some h52
  obtain ⟨zl46, rfl, h54⟩ := zrC_some h53
  obtain ⟨zc47, zr48, rfl, h55⟩ := zrL_some h54
  obtain ⟨rfl, h56⟩ := zrF_some h55
  obtain ⟨zc49, zr50, rfl, h57⟩ := zrL_some h56
  obtain ⟨rfl, h58⟩ := zrF_some h57
  obtain ⟨zc51, zr52, rfl, h59⟩ := zrL_some h58
  obtain ⟨q5, rfl, h60⟩ := zrI_some h59
  obtain ⟨rfl, h61⟩ := zrN_some h60
  obtain ⟨zq53, zw54, rfl, h62⟩ := zrL_some h61
  obtain ⟨zk55, rfl, h63⟩ := zrKey_some h62
  obtain ⟨q6, rfl, h64⟩ := zrR_some h63
  obtain ⟨zq56, zw57, rfl, h65⟩ := zrL_some h64
  obtain ⟨zk58, rfl, h66⟩ := zrKey_some h65
  obtain ⟨q7, rfl, h67⟩ := zrR_some h66
  obtain ⟨rfl, h68⟩ := zrN_some h67
  have h := Option.some.inj h68
  have hu := congrArg Prod.fst h
  have hv := congrArg Prod.snd h
  dsimp only at hu hv
  subst hu
  subst hv
  exact ⟨rfl, (tm_fill (hj rfl) (Lv := [(2, .one (.v false (.int .i64 q0))), (3, .one (.p 0 0)), (6, .one (.p 2 0)), (7, .one (.s false 980 0 (none))), (8, .one (.v false (.int .i64 q1))), (9, .one (.s false 940 0 (none))), (10, .one (.v false (.int .i64 q2))), (18, .one (.v false (.int .i64 q3))), (19, .one (.v false (.int .i64 q4)))]) (by kernel_rfl) ⟨e2, e3, e6, e7, e8, e9, e10, e18, e19, trivial⟩).trans (by kernel_rfl), rfl⟩
theorem ciD1_read_ok (st : Stt) (u : ciD1_U) (v : wiD1_V) (h : ciD1_read st = some (u, v)) : ciD1_cok st = true ∧ staysA [⟨940, some 9, 0, 0, 45, (.list (.prod (.int .i64) (.int .i64)))⟩] [7035, 7011, 7010, 7001, 7000, 2, 1, 0, 980, 940] st.own = true ∧ ciD1_can st = ciD1_St u v := by
  obtain ⟨h1, h2, h3⟩ := ciD1_rd_ok (fun hb => by rw [Bool.and_eq_true, Bool.and_eq_true] at hb; exact hb.2.2) h
  rw [Bool.and_eq_true, Bool.and_eq_true] at h1
  refine ⟨h1.1, h1.2.1, ?_⟩
  have e : ciD1_can st = ⟨(ciD1_can st).tm, (ciD1_can st).own, 2017⟩ := by kernel_rfl
  rw [e, h2, h3]
  rfl
noncomputable def ciD1_cond (u : ciD1_U) (v : wiD1_V) : Bool := runC (ciD1_step u) v
noncomputable def ciD1_g (u : ciD1_U) (v : wiD1_V) : Nat × wiD1_V := runG (ciD1_step u) v
theorem ciD1_hg : ∀ (u : ciD1_U) (v : wiD1_V), ciD1_cond u v = true → loopN (ciD1_step u) ((fun u v => runF (ciD1_step u) v) u v) v = some (ciD1_g u v) := by
  exact fun u v h => run_hg h
noncomputable def ciD1_m (st : Stt) : Option (Tr (Ex × Stt)) := sumM ciD1_read ciD1_cond ciD1_St ciD1_g [(0, .exit 2)] st
noncomputable def moF_L51 : FuncId → Loops := addL 67 [0, 1, 0, 1, 0, 0, 1, 1, 0, 0, 1, 0, 1, 1] ciD1_m moD_L55
set_option maxRecDepth 100000 in
set_option maxHeartbeats 4000000 in
theorem moF_L51_ok : LoopsOK Try.prog moF_L51 :=
  loop_sumF (body := (bodyOf Try.prog 67)) (c := (loopOf (bodyOf Try.prog 67) [1, 1, 0, 1, 0, 0, 1, 1, 0, 0, 1, 0, 1, 0])) (kinds := [.exit 2]) (allow := [(0, .exit 2)]) (St := ciD1_St) (step := ciD1_step) (W := [0, 1, 4, 5, 11, 12, 13, 14, 15, 16, 17, 20, 21, 22, 23, 24, 25, 26, 27, 28, 29, 30, 31, 32, 33, 34, 35, 36, 37, 38, 39, 40, 41, 42, 43, 44, 45, 46, 47, 48, 49, 50, 51, 52, 53, 54, 55, 56, 57, 58, 59, 60]) (As := [⟨940, some 9, 0, 0, 45, (.list (.prod (.int .i64) (.int .i64)))⟩]) (ks := [7035, 7011, 7010, 7001, 7000, 2, 1, 0, 980, 940]) (dd := [7035, 7011, 7010, 7001, 7000, 1, 2047]) (nx := 2017) (n := 100000) (g := ciD1_g) (cond := ciD1_cond) (fuel := (fun u v => runF (ciD1_step u) v)) (read := ciD1_read) (by kernel_rfl) (moD_S58_ok) (moD_L55_ok) 7 ⟨Try.f67, by kernel_rfl, by kernel_rfl⟩ (by kernel_rfl) (by kernel_rfl) (by kernel_rfl) ciD1_step_eq ciD1_hg ciD1_read_ok
noncomputable def ciD0_St (u : sqD_U) (v : wiD1_V) : Stt := ⟨[.one .junk, .one .junk, .one (.v false (.int .i64 u.1)), .one (.p 0 0), .one .junk, .one .junk, .one (.p 2 0), .one (.s false 980 0 (none)), .one (.v false (.int .i64 u.2.1)), .one .junk, .one .junk, .one .junk, .one .junk, .one .junk, .one .junk, .one .junk, .one .junk, .one .junk, .one (.v false (.int .i64 u.2.2.1)), .one (.v false (.int .i64 v.1)), .one .junk, .one .junk, .one .junk, .one .junk, .one .junk, .one .junk, .one .junk, .one .junk, .one .junk, .one .junk, .one .junk, .one .junk, .one .junk, .one .junk, .one .junk, .one .junk, .one .junk, .one .junk, .one .junk, .one .junk, .one .junk, .one .junk, .one .junk, .one .junk, .one .junk, .one .junk, .one .junk, .one .junk, .one .junk, .one .junk, .one .junk, .one .junk, .one .junk, .one .junk, .one .junk, .one .junk, .one .junk, .one .junk, .one .junk, .one .junk, .one .junk], [(7035, .dead), (7011, .dead), (7010, .dead), (7001, .dead), (7000, .dead), (2, .cells [.v false (Value.slice none (0 : Nat) (0 : Nat))]), (1, .dead), (0, .cells [.fn 71 [], .fn 65 [], .v false (.int .i64 u.2.2.2)]), (980, .row true false false 45 (.list (.prod (.int .i64) (.int .i64))) v.2)], 1014⟩
noncomputable def ciD0_step (u : sqD_U) (v : wiD1_V) : Tr (wiD1_V ⊕ (Nat × wiD1_V)) :=
  match u, v with
  | (q0, q1, q2, q4), (q3, q5) => .br (decide (q3 < q2)) (.br (ciD1_cond (q0, q1, q2, q3, q4, q5) ((1 : Int), [])) (.br (Nat.beq (Prod.fst (ciD1_g (q0, q1, q2, q3, q4, q5) ((1 : Int), []))) (0 : Nat)) (.ret (.inl (IntKind.wrap .i64 (q3 + (1 : Int)), Prod.snd (Prod.snd (ciD1_g (q0, q1, q2, q3, q4, q5) ((1 : Int), [])))))) (.bad 902)) (.bad 901)) (.ret (.inr (0, (q3, q5))))
set_option maxRecDepth 100000 in
set_option maxHeartbeats 4000000 in
theorem ciD0_step_eq : ∀ (u : sqD_U) (v : wiD1_V), (evalC Try.prog (evalB Try.prog moD_S58 (opens [72]) moF_L51 7).1 (evalB Try.prog moD_S58 (opens [72]) moF_L51 7).2 (opens [72]) (moF_L51 67) 100000 (0 :: [0, 1, 0, 1, 1]) (loopOf (bodyOf Try.prog 67) [1, 1, 0, 1, 0]) (ciD0_St u v) []).bind (finF [0, 1, 4, 5, 9, 10, 11, 12, 13, 14, 15, 16, 17, 20, 21, 22, 23, 24, 25, 26, 27, 28, 29, 30, 31, 32, 33, 34, 35, 36, 37, 38, 39, 40, 41, 42, 43, 44, 45, 46, 47, 48, 49, 50, 51, 52, 53, 54, 55, 56, 57, 58, 59, 60] [⟨980, some 7, 0, 0, 45, (.list (.prod (.int .i64) (.int .i64)))⟩] [7035, 7011, 7010, 7001, 7000, 2, 1, 0, 980] [7035, 7011, 7010, 7001, 7000, 1, 940] 1014) = (ciD0_step u v).bind (outA (ciD0_St u) [.exit 0]) := by
  rintro ⟨q0, q1, q2, q4⟩ ⟨q3, q5⟩
  kernel_rfl
noncomputable def ciD0_rd (b : Bool) (o2 : Option AV) (o3 : Option AV) (o6 : Option AV) (o7 : Option AV) (o8 : Option AV) (o18 : Option AV) (o19 : Option AV) (own : Own) : Option (sqD_U × wiD1_V) := zrT b <| zrO o2 fun za1 => zrA1 za1 fun zc2 => zrI .i64 zc2 fun q0 => zrO o3 fun za3 => zrA1 za3 fun zc4 => zrP 0 0 zc4 <| zrO o6 fun za5 => zrA1 za5 fun zc6 => zrP 2 0 zc6 <| zrO o7 fun za7 => zrA1 za7 fun zc8 => zrSl 980 0 (none) zc8 <| zrO o8 fun za9 => zrA1 za9 fun zc10 => zrI .i64 zc10 fun q1 => zrO o18 fun za11 => zrA1 za11 fun zc12 => zrI .i64 zc12 fun q2 => zrO o19 fun za13 => zrA1 za13 fun zc14 => zrI .i64 zc14 fun q3 => zrL own fun zq15 zw16 => zrKey 7035 zq15 fun zk17 => zrX zk17 <| zrL zw16 fun zq18 zw19 => zrKey 7011 zq18 fun zk20 => zrX zk20 <| zrL zw19 fun zq21 zw22 => zrKey 7010 zq21 fun zk23 => zrX zk23 <| zrL zw22 fun zq24 zw25 => zrKey 7001 zq24 fun zk26 => zrX zk26 <| zrL zw25 fun zq27 zw28 => zrKey 7000 zq27 fun zk29 => zrX zk29 <| zrL zw28 fun zq30 zw31 => zrKey 2 zq30 fun zk32 => zrC zk32 fun zl33 => zrL zl33 fun zc34 zr35 => zrNil zc34 <| zrN zr35 <| zrL zw31 fun zq36 zw37 => zrKey 1 zq36 fun zk38 => zrX zk38 <| zrL zw37 fun zq39 zw40 => zrKey 0 zq39 fun zk41 => zrC zk41 fun zl42 => zrL zl42 fun zc43 zr44 => zrF 71 [] zc43 <| zrL zr44 fun zc45 zr46 => zrF 65 [] zc45 <| zrL zr46 fun zc47 zr48 => zrI .i64 zc47 fun q4 => zrN zr48 <| zrL zw40 fun zq49 zw50 => zrKey 980 zq49 fun zk51 => zrR true 45 (.list (.prod (.int .i64) (.int .i64))) zk51 fun q5 => zrN zw50 <| some ((q0, q1, q2, q4), (q3, q5))
noncomputable def ciD0_can (st : Stt) : Stt := canA [0, 1, 4, 5, 9, 10, 11, 12, 13, 14, 15, 16, 17, 20, 21, 22, 23, 24, 25, 26, 27, 28, 29, 30, 31, 32, 33, 34, 35, 36, 37, 38, 39, 40, 41, 42, 43, 44, 45, 46, 47, 48, 49, 50, 51, 52, 53, 54, 55, 56, 57, 58, 59, 60] [⟨980, some 7, 0, 0, 45, (.list (.prod (.int .i64) (.int .i64)))⟩] [7035, 7011, 7010, 7001, 7000, 2, 1, 0, 980] [7035, 7011, 7010, 7001, 7000, 1, 940] 1014 st
noncomputable def ciD0_cok (st : Stt) : Bool := canAok [0, 1, 4, 5, 9, 10, 11, 12, 13, 14, 15, 16, 17, 20, 21, 22, 23, 24, 25, 26, 27, 28, 29, 30, 31, 32, 33, 34, 35, 36, 37, 38, 39, 40, 41, 42, 43, 44, 45, 46, 47, 48, 49, 50, 51, 52, 53, 54, 55, 56, 57, 58, 59, 60] [⟨980, some 7, 0, 0, 45, (.list (.prod (.int .i64) (.int .i64)))⟩] [7035, 7011, 7010, 7001, 7000, 2, 1, 0, 980] [7035, 7011, 7010, 7001, 7000, 1, 940] 1014 st
noncomputable def ciD0_read (st : Stt) : Option (sqD_U × wiD1_V) := ciD0_rd (ciD0_cok st && (staysA [⟨980, some 7, 0, 0, 45, (.list (.prod (.int .i64) (.int .i64)))⟩] [7035, 7011, 7010, 7001, 7000, 2, 1, 0, 980] st.own && juAll [0, 1, 4, 5, 9, 10, 11, 12, 13, 14, 15, 16, 17, 20, 21, 22, 23, 24, 25, 26, 27, 28, 29, 30, 31, 32, 33, 34, 35, 36, 37, 38, 39, 40, 41, 42, 43, 44, 45, 46, 47, 48, 49, 50, 51, 52, 53, 54, 55, 56, 57, 58, 59, 60] (ciD0_can st).tm 61)) (ciD0_can st).tm[2]? (ciD0_can st).tm[3]? (ciD0_can st).tm[6]? (ciD0_can st).tm[7]? (ciD0_can st).tm[8]? (ciD0_can st).tm[18]? (ciD0_can st).tm[19]? (ciD0_can st).own
set_option maxRecDepth 100000 in
set_option maxHeartbeats 4000000 in
theorem ciD0_rd_ok {b : Bool} {tm : List AV} {own : Own} {u : sqD_U} {v : wiD1_V} (hj : b = true → juAll [0, 1, 4, 5, 9, 10, 11, 12, 13, 14, 15, 16, 17, 20, 21, 22, 23, 24, 25, 26, 27, 28, 29, 30, 31, 32, 33, 34, 35, 36, 37, 38, 39, 40, 41, 42, 43, 44, 45, 46, 47, 48, 49, 50, 51, 52, 53, 54, 55, 56, 57, 58, 59, 60] tm 61 = true) (h : ciD0_rd b tm[2]? tm[3]? tm[6]? tm[7]? tm[8]? tm[18]? tm[19]? own = some (u, v)) : b = true ∧ tm = (ciD0_St u v).tm ∧ own = (ciD0_St u v).own := by
  unfold ciD0_rd at h
  obtain ⟨rfl, h0⟩ := zrT_some h
  obtain ⟨za1, e2, h1⟩ := zrO_some h0
  obtain ⟨zc2, rfl, h2⟩ := zrA1_some h1
  obtain ⟨q0, rfl, h3⟩ := zrI_some h2
  obtain ⟨za3, e3, h4⟩ := zrO_some h3
  obtain ⟨zc4, rfl, h5⟩ := zrA1_some h4
  obtain ⟨rfl, h6⟩ := zrP_some h5
  obtain ⟨za5, e6, h7⟩ := zrO_some h6
  obtain ⟨zc6, rfl, h8⟩ := zrA1_some h7
  obtain ⟨rfl, h9⟩ := zrP_some h8
  obtain ⟨za7, e7, h10⟩ := zrO_some h9
  obtain ⟨zc8, rfl, h11⟩ := zrA1_some h10
  obtain ⟨rfl, h12⟩ := zrSl_some h11
  obtain ⟨za9, e8, h13⟩ := zrO_some h12
  obtain ⟨zc10, rfl, h14⟩ := zrA1_some h13
  obtain ⟨q1, rfl, h15⟩ := zrI_some h14
  obtain ⟨za11, e18, h16⟩ := zrO_some h15
  obtain ⟨zc12, rfl, h17⟩ := zrA1_some h16
  obtain ⟨q2, rfl, h18⟩ := zrI_some h17
  obtain ⟨za13, e19, h19⟩ := zrO_some h18
  obtain ⟨zc14, rfl, h20⟩ := zrA1_some h19
  obtain ⟨q3, rfl, h21⟩ := zrI_some h20
  obtain ⟨zq15, zw16, rfl, h22⟩ := zrL_some h21
  obtain ⟨zk17, rfl, h23⟩ := zrKey_some h22
  obtain ⟨rfl, h24⟩ := zrX_some h23
  obtain ⟨zq18, zw19, rfl, h25⟩ := zrL_some h24
  obtain ⟨zk20, rfl, h26⟩ := zrKey_some h25
  obtain ⟨rfl, h27⟩ := zrX_some h26
  obtain ⟨zq21, zw22, rfl, h28⟩ := zrL_some h27
  obtain ⟨zk23, rfl, h29⟩ := zrKey_some h28
  obtain ⟨rfl, h30⟩ := zrX_some h29
  obtain ⟨zq24, zw25, rfl, h31⟩ := zrL_some h30
  obtain ⟨zk26, rfl, h32⟩ := zrKey_some h31
  obtain ⟨rfl, h33⟩ := zrX_some h32
  obtain ⟨zq27, zw28, rfl, h34⟩ := zrL_some h33
  obtain ⟨zk29, rfl, h35⟩ := zrKey_some h34
  obtain ⟨rfl, h36⟩ := zrX_some h35
  obtain ⟨zq30, zw31, rfl, h37⟩ := zrL_some h36
  obtain ⟨zk32, rfl, h38⟩ := zrKey_some h37
  obtain ⟨zl33, rfl, h39⟩ := zrC_some h38
  obtain ⟨zc34, zr35, rfl, h40⟩ := zrL_some h39
  obtain ⟨rfl, h41⟩ := zrNil_some h40
  obtain ⟨rfl, h42⟩ := zrN_some h41
  obtain ⟨zq36, zw37, rfl, h43⟩ := zrL_some h42
  obtain ⟨zk38, rfl, h44⟩ := zrKey_some h43
  obtain ⟨rfl, h45⟩ := zrX_some h44
  obtain ⟨zq39, zw40, rfl, h46⟩ := zrL_some h45
  obtain ⟨zk41, rfl, h47⟩ := zrKey_some h46
  obtain ⟨zl42, rfl, h48⟩ := zrC_some h47
  obtain ⟨zc43, zr44, rfl, h49⟩ := zrL_some h48
  obtain ⟨rfl, h50⟩ := zrF_some h49
  obtain ⟨zc45, zr46, rfl, h51⟩ := zrL_some h50
  obtain ⟨rfl, h52⟩ := zrF_some h51
  obtain ⟨zc47, zr48, rfl, h53⟩ := zrL_some h52
  obtain ⟨q4, rfl, h54⟩ := zrI_some h53
  obtain ⟨rfl, h55⟩ := zrN_some h54
  obtain ⟨zq49, zw50, rfl, h56⟩ := zrL_some h55
  obtain ⟨zk51, rfl, h57⟩ := zrKey_some h56
  obtain ⟨q5, rfl, h58⟩ := zrR_some h57
  obtain ⟨rfl, h59⟩ := zrN_some h58
  have h := Option.some.inj h59
  have hu := congrArg Prod.fst h
  have hv := congrArg Prod.snd h
  dsimp only at hu hv
  subst hu
  subst hv
  exact ⟨rfl, (tm_fill (hj rfl) (Lv := [(2, .one (.v false (.int .i64 q0))), (3, .one (.p 0 0)), (6, .one (.p 2 0)), (7, .one (.s false 980 0 (none))), (8, .one (.v false (.int .i64 q1))), (18, .one (.v false (.int .i64 q2))), (19, .one (.v false (.int .i64 q3)))]) (by kernel_rfl) ⟨e2, e3, e6, e7, e8, e18, e19, trivial⟩).trans (by kernel_rfl), rfl⟩
theorem ciD0_read_ok (st : Stt) (u : sqD_U) (v : wiD1_V) (h : ciD0_read st = some (u, v)) : ciD0_cok st = true ∧ staysA [⟨980, some 7, 0, 0, 45, (.list (.prod (.int .i64) (.int .i64)))⟩] [7035, 7011, 7010, 7001, 7000, 2, 1, 0, 980] st.own = true ∧ ciD0_can st = ciD0_St u v := by
  obtain ⟨h1, h2, h3⟩ := ciD0_rd_ok (fun hb => by rw [Bool.and_eq_true, Bool.and_eq_true] at hb; exact hb.2.2) h
  rw [Bool.and_eq_true, Bool.and_eq_true] at h1
  refine ⟨h1.1, h1.2.1, ?_⟩
  have e : ciD0_can st = ⟨(ciD0_can st).tm, (ciD0_can st).own, 1014⟩ := by kernel_rfl
  rw [e, h2, h3]
  rfl
noncomputable def ciD0_cond (u : sqD_U) (v : wiD1_V) : Bool := runC (ciD0_step u) v
noncomputable def ciD0_g (u : sqD_U) (v : wiD1_V) : Nat × wiD1_V := runG (ciD0_step u) v
theorem ciD0_hg : ∀ (u : sqD_U) (v : wiD1_V), ciD0_cond u v = true → loopN (ciD0_step u) ((fun u v => runF (ciD0_step u) v) u v) v = some (ciD0_g u v) := by
  exact fun u v h => run_hg h
noncomputable def ciD0_m (st : Stt) : Option (Tr (Ex × Stt)) := sumM ciD0_read ciD0_cond ciD0_St ciD0_g [(0, .exit 0)] st
noncomputable def moF_L52 : FuncId → Loops := addL 67 [0, 1, 0, 1, 1] ciD0_m moF_L51
set_option maxRecDepth 100000 in
set_option maxHeartbeats 4000000 in
theorem moF_L52_ok : LoopsOK Try.prog moF_L52 :=
  loop_sumF (body := (bodyOf Try.prog 67)) (c := (loopOf (bodyOf Try.prog 67) [1, 1, 0, 1, 0])) (kinds := [.exit 0]) (allow := [(0, .exit 0)]) (St := ciD0_St) (step := ciD0_step) (W := [0, 1, 4, 5, 9, 10, 11, 12, 13, 14, 15, 16, 17, 20, 21, 22, 23, 24, 25, 26, 27, 28, 29, 30, 31, 32, 33, 34, 35, 36, 37, 38, 39, 40, 41, 42, 43, 44, 45, 46, 47, 48, 49, 50, 51, 52, 53, 54, 55, 56, 57, 58, 59, 60]) (As := [⟨980, some 7, 0, 0, 45, (.list (.prod (.int .i64) (.int .i64)))⟩]) (ks := [7035, 7011, 7010, 7001, 7000, 2, 1, 0, 980]) (dd := [7035, 7011, 7010, 7001, 7000, 1, 940]) (nx := 1014) (n := 100000) (g := ciD0_g) (cond := ciD0_cond) (fuel := (fun u v => runF (ciD0_step u) v)) (read := ciD0_read) (by kernel_rfl) (moD_S58_ok) (moF_L51_ok) 7 ⟨Try.f67, by kernel_rfl, by kernel_rfl⟩ (by kernel_rfl) (by kernel_rfl) (by kernel_rfl) ciD0_step_eq ciD0_hg ciD0_read_ok
theorem ciD1_run {R : Rg} {F : Int} {N t : Nat} {W : List Rl} {a b c d ro : Int} (h : valG R) (hN : N ≤ 20000) (ht : t < 65) (cn : Cn true R F N t W) : ciD1_cond (a, b, c, d, ro, W) (1, []) = true ∧ (ciD1_g (a, b, c, d, ro, W) (1, [])).1 = 0 ∧ Cn true R F N (t + 1) (ciD1_g (a, b, c, d, ro, W) (1, [])).2.2 := by
  have hW : W.length ≤ 20000 := by have := cn.len; omega
  have hs := cn_step h ht cn
  have R1 := run_steps (step := ciD1_step (a, b, c, d, ro, W)) (St := fun j => (((j + 1 : Nat) : Int), tab j fun i => chL (chL (W.getD i []) (W.getD (i + 2) []) (anq true)) (wdR true (W.getD (i + 1) []) 1) (anq true))) (n := W.length - 2) (t := (0, (((W.length - 2 + 1 : Nat) : Int), tab (W.length - 2) fun i => chL (chL (W.getD i []) (W.getD (i + 2) []) (anq true)) (wdR true (W.getD (i + 1) []) 1) (anq true)))) (by
    have w : IntKind.wrap .i64 (((W.length - 2 + 1 : Nat) : Int) + (1 : Int)) = ((W.length - 2 + 2 : Nat) : Int) := by rw [wid (by omega) (by omega)]; omega
    have e : decide (((W.length - 2 + 2 : Nat) : Int) < (W.length : Int)) = false := decide_eq_false (by omega)
    simp only [ciD1_step, Tr.val, w, e, cond_false]) (W.length - 2) 0 (Nat.zero_add _) (fun j _ hj => by
    have w1 : IntKind.wrap .i64 (((j + 1 : Nat) : Int) + (1 : Int)) = ((j + 1 + 1 : Nat) : Int) := by rw [wid (by omega) (by omega)]; omega
    have w2 : IntKind.wrap .i64 (((j + 1 : Nat) : Int) - (1 : Int)) = (j : Int) := by rw [wid (by omega) (by omega)]; omega
    have h0 : j < W.length := by omega
    have h1 : j + 1 < W.length := by omega
    have h2 : j + 1 + 1 < W.length := by omega
    obtain ⟨v0, b0⟩ := cn.val j h0
    obtain ⟨v1, b1⟩ := cn.val (j + 1) h1
    obtain ⟨v2, b2⟩ := cn.val (j + 1 + 1) h2
    have l0 := bd_len (M := 5000) v0 (bd_in v0 b0) (by omega)
    have l1 := bd_len (M := 5000) v1 (bd_in v1 b1) (by omega)
    have l2 := bd_len (M := 5000) v2 (bd_in v2 b2) (by omega)
    have g1 : grOk (W.getD (j + 1) []) (1 : Int) = true := gr_of v1 (by omega) (by omega) (by omega) fun r hr => by have := bd_in v1 b1 r hr; omega
    obtain ⟨j1, j2⟩ := ch_ok v0 v2 (anq true)
    have jb : ∀ x, memB (chL (W.getD j []) (W.getD (j + 1 + 1) []) (anq true)) x = true → -5000 ≤ x ∧ x < 5000 := fun x hx => by
      rw [j2] at hx
      exact opq_in true (b0 x) (b2 x) hx
    have l3 := bd_len (M := 5000) j1 (bd_in j1 jb) (by omega)
    obtain ⟨u1, u2⟩ := wd_ok true (k := 1) (M := 5000) v1 (bd_in v1 b1) (by omega) (by omega)
    have ub : ∀ x, memB (wdR true (W.getD (j + 1) []) 1) x = true → -5001 ≤ x ∧ x < 5001 := fun x hx => wdq_in true b1 ((u2 x).1 hx)
    have l4 := bd_len (M := 5001) u1 (bd_in u1 ub) (by omega)
    have c0 : decide ((W.getD j []).length ≤ (10000 : Nat)) = true := decide_eq_true (by omega)
    have c2 : decide ((W.getD (j + 1 + 1) []).length ≤ (10000 : Nat)) = true := decide_eq_true (by omega)
    have c3 : decide ((chL (W.getD j []) (W.getD (j + 1 + 1) []) (anq true)).length ≤ (10000 : Nat)) = true := decide_eq_true (by omega)
    have c4 : decide ((wdR true (W.getD (j + 1) []) 1).length ≤ (10000 : Nat)) = true := decide_eq_true (by omega)
    obtain ⟨r1, r2⟩ := room24 (n := j + 1) (by omega)
    rw [show anq true = (2 : Int) from rfl] at c3
    simp only [ciD1_step, Tr.val, w1, w2, lt_t h0, lt_t h1, lt_t h2, nn_t, el_w, decide_eq_true h0, decide_eq_true h1, decide_eq_true h2, Int.toNat_natCast, c0, c2, c3, c4, g1, tab_length, r1, r2, Bool.and_self, cond_true, tab_succ]
    rfl)
  refine ⟨R1.1, ?_, ?_⟩
  · rw [show ciD1_g (a, b, c, d, ro, W) (1, []) = _ from R1.2]
  · rw [show ciD1_g (a, b, c, d, ro, W) (1, []) = _ from R1.2]
    exact hs
theorem ciD0_run {R : Rg} {F b ro : Int} {N k : Nat} {a : Int} {W : List Rl} (h : valG R) (hN : N ≤ 20000) (hk : k ≤ 64) (cn : Cn true R F N 0 W) : ciD0_cond (a, b, (k : Int), ro) (0, W) = true ∧ (ciD0_g (a, b, (k : Int), ro) (0, W)).1 = 0 ∧ Cn true R F N k (ciD0_g (a, b, (k : Int), ro) (0, W)).2.2 := by
  refine run_val (step := ciD0_step (a, b, (k : Int), ro)) (Inv := fun s => ∃ (t : Nat) (l : List Rl), s = ((t : Int), l) ∧ t ≤ k ∧ Cn true R F N t l) (μ := fun s => k - s.1.toNat) (Q := fun t => t.1 = 0 ∧ Cn true R F N k t.2.2) ?_ _ _ (Nat.lt_succ_self _) ⟨0, W, rfl, by omega, cn⟩
  rintro s ⟨t, l, rfl, t1, cn⟩
  by_cases g : t < k
  · obtain ⟨v1, v2, v3⟩ := ciD1_run (a := a) (b := b) (c := (k : Int)) (d := (t : Int)) (ro := ro) h hN (show t < 65 by omega) cn
    have w1 : IntKind.wrap .i64 ((t : Int) + (1 : Int)) = ((t + 1 : Nat) : Int) := by rw [wid (by omega) (by omega)]; omega
    refine ⟨.inl (((t + 1 : Nat) : Int), (ciD1_g (a, b, (k : Int), (t : Int), ro, l) (1, [])).2.2), ?_, ⟨t + 1, _, rfl, by omega, v3⟩, by show k - ((t + 1 : Nat) : Int).toNat < k - (t : Int).toNat; omega⟩
    simp only [ciD0_step, Tr.val, lt_t g, v1, v2, w1, Nat.beq, cond_true]
  · have e : decide ((t : Int) < (k : Int)) = false := decide_eq_false (by omega)
    have : t = k := by omega
    subst this
    exact ⟨.inr (0, ((t : Int), l)), by simp only [ciD0_step, Tr.val, e, cond_false], rfl, cn⟩
noncomputable def crDc_t (ro : Int) (R : (Ty.list (.prod (.int .i64) (.list (.prod (.int .i64) (.int .i64))))).den) (k : Int) : Tr AV := .br (((szG R) && (bif !boxB R then ((ciD0_cond (k, (0 : Int), k, ro) ((0 : Int), [])) && ((Nat.beq (Prod.fst (ciD0_g (k, (0 : Int), k, ro) ((0 : Int), []))) (0 : Nat)) && (rgOk (Prod.snd (Prod.snd (ciD0_g (k, (0 : Int), k, ro) ((0 : Int), [])))) (IntKind.wrap .i64 ((0 : Int) + k))))) else ((decide ((0 : Int) ≤ IntKind.wrap .i64 (IntKind.wrap .i64 (IntKind.wrap .i64 (bHY R + IntKind.wrap .i64 (ro * k)) - IntKind.wrap .i64 (bLY R - IntKind.wrap .i64 (ro * k))) + (1 : Int))) && decide (IntKind.wrap .i64 (IntKind.wrap .i64 (IntKind.wrap .i64 (bHY R + IntKind.wrap .i64 (ro * k)) - IntKind.wrap .i64 (bLY R - IntKind.wrap .i64 (ro * k))) + (1 : Int)) ≤ IntKind.wrap .i64 (IntKind.wrap .i64 (IntKind.wrap .i64 (bHY R + IntKind.wrap .i64 (ro * k)) - IntKind.wrap .i64 (bLY R - IntKind.wrap .i64 (ro * k))) + (1 : Int))) && decide ((↑(24 : Nat) : Int) * IntKind.wrap .i64 (IntKind.wrap .i64 (IntKind.wrap .i64 (bHY R + IntKind.wrap .i64 (ro * k)) - IntKind.wrap .i64 (bLY R - IntKind.wrap .i64 (ro * k))) + (1 : Int)) ≤ (281474976710656 : Int)) && decide (IntKind.wrap .i64 (IntKind.wrap .i64 (IntKind.wrap .i64 (bHY R + IntKind.wrap .i64 (ro * k)) - IntKind.wrap .i64 (bLY R - IntKind.wrap .i64 (ro * k))) + (1 : Int)) ≤ (9223372036854775807 : Int))) && ((rwD_cond ((0 : Int), IntKind.wrap .i64 (bLY R - IntKind.wrap .i64 (ro * k)), R, (↑(List.length R) : Int), R, ro) ((0 : Int), List.replicate (Int.toNat (IntKind.wrap .i64 (IntKind.wrap .i64 (IntKind.wrap .i64 (bHY R + IntKind.wrap .i64 (ro * k)) - IntKind.wrap .i64 (bLY R - IntKind.wrap .i64 (ro * k))) + (1 : Int)))) [])) && ((Nat.beq (Prod.fst (rwD_g ((0 : Int), IntKind.wrap .i64 (bLY R - IntKind.wrap .i64 (ro * k)), R, (↑(List.length R) : Int), R, ro) ((0 : Int), List.replicate (Int.toNat (IntKind.wrap .i64 (IntKind.wrap .i64 (IntKind.wrap .i64 (bHY R + IntKind.wrap .i64 (ro * k)) - IntKind.wrap .i64 (bLY R - IntKind.wrap .i64 (ro * k))) + (1 : Int)))) []))) (0 : Nat)) && ((ciD0_cond (k, IntKind.wrap .i64 (bLY R - IntKind.wrap .i64 (ro * k)), k, ro) ((0 : Int), Prod.snd (Prod.snd (rwD_g ((0 : Int), IntKind.wrap .i64 (bLY R - IntKind.wrap .i64 (ro * k)), R, (↑(List.length R) : Int), R, ro) ((0 : Int), List.replicate (Int.toNat (IntKind.wrap .i64 (IntKind.wrap .i64 (IntKind.wrap .i64 (bHY R + IntKind.wrap .i64 (ro * k)) - IntKind.wrap .i64 (bLY R - IntKind.wrap .i64 (ro * k))) + (1 : Int)))) []))))) && ((Nat.beq (Prod.fst (ciD0_g (k, IntKind.wrap .i64 (bLY R - IntKind.wrap .i64 (ro * k)), k, ro) ((0 : Int), Prod.snd (Prod.snd (rwD_g ((0 : Int), IntKind.wrap .i64 (bLY R - IntKind.wrap .i64 (ro * k)), R, (↑(List.length R) : Int), R, ro) ((0 : Int), List.replicate (Int.toNat (IntKind.wrap .i64 (IntKind.wrap .i64 (IntKind.wrap .i64 (bHY R + IntKind.wrap .i64 (ro * k)) - IntKind.wrap .i64 (bLY R - IntKind.wrap .i64 (ro * k))) + (1 : Int)))) [])))))) (0 : Nat)) && (rgOk (Prod.snd (Prod.snd (ciD0_g (k, IntKind.wrap .i64 (bLY R - IntKind.wrap .i64 (ro * k)), k, ro) ((0 : Int), Prod.snd (Prod.snd (rwD_g ((0 : Int), IntKind.wrap .i64 (bLY R - IntKind.wrap .i64 (ro * k)), R, (↑(List.length R) : Int), R, ro) ((0 : Int), List.replicate (Int.toNat (IntKind.wrap .i64 (IntKind.wrap .i64 (IntKind.wrap .i64 (bHY R + IntKind.wrap .i64 (ro * k)) - IntKind.wrap .i64 (bLY R - IntKind.wrap .i64 (ro * k))) + (1 : Int)))) []))))))) (IntKind.wrap .i64 (IntKind.wrap .i64 (bLY R - IntKind.wrap .i64 (ro * k)) + k))))))))))) (.ret (.ag [.d false false (.prod (.int .i64) (.list (.prod (.int .i64) (.int .i64)))) (bif !boxB R then rgN (fun i => List.getD (Prod.snd (Prod.snd (ciD0_g (k, (0 : Int), k, ro) ((0 : Int), [])))) i []) (IntKind.wrap .i64 ((0 : Int) + k)) (List.length (Prod.snd (Prod.snd (ciD0_g (k, (0 : Int), k, ro) ((0 : Int), []))))) else rgN (fun i => List.getD (Prod.snd (Prod.snd (ciD0_g (k, IntKind.wrap .i64 (bLY R - IntKind.wrap .i64 (ro * k)), k, ro) ((0 : Int), Prod.snd (Prod.snd (rwD_g ((0 : Int), IntKind.wrap .i64 (bLY R - IntKind.wrap .i64 (ro * k)), R, (↑(List.length R) : Int), R, ro) ((0 : Int), List.replicate (Int.toNat (IntKind.wrap .i64 (IntKind.wrap .i64 (IntKind.wrap .i64 (bHY R + IntKind.wrap .i64 (ro * k)) - IntKind.wrap .i64 (bLY R - IntKind.wrap .i64 (ro * k))) + (1 : Int)))) []))))))) i []) (IntKind.wrap .i64 (IntKind.wrap .i64 (bLY R - IntKind.wrap .i64 (ro * k)) + k)) (List.length (Prod.snd (Prod.snd (ciD0_g (k, IntKind.wrap .i64 (bLY R - IntKind.wrap .i64 (ro * k)), k, ro) ((0 : Int), Prod.snd (Prod.snd (rwD_g ((0 : Int), IntKind.wrap .i64 (bLY R - IntKind.wrap .i64 (ro * k)), R, (↑(List.length R) : Int), R, ro) ((0 : Int), List.replicate (Int.toNat (IntKind.wrap .i64 (IntKind.wrap .i64 (IntKind.wrap .i64 (bHY R + IntKind.wrap .i64 (ro * k)) - IntKind.wrap .i64 (bLY R - IntKind.wrap .i64 (ro * k))) + (1 : Int)))) [])))))))))])) (.bad 116)
set_option maxRecDepth 100000 in
theorem crDc_tree (ro : Int) (R : (Ty.list (.prod (.int .i64) (.list (.prod (.int .i64) (.int .i64))))).den) (k : Int) : evalF Try.prog moD_S58 (opens [72]) moF_L52 9 67 [.ag [.fn 71 [], .fn 65 [], .v false (.int .i64 ro)], .ag [.d false false (.prod (.int .i64) (.list (.prod (.int .i64) (.int .i64)))) R], .one (.v false (.int .i64 k))] = crDc_t ro R k := by kernel_rfl
theorem crDc_val (ro : Int) (R : (Ty.list (.prod (.int .i64) (.list (.prod (.int .i64) (.int .i64))))).den) (k : Int) (hc : (sqOk true R k ro) = true) : (crDc_t ro R k).val = some (.ag [.d false false (.prod (.int .i64) (.list (.prod (.int .i64) (.int .i64)))) (dmG true R k)]) := by
  obtain ⟨K, rfl⟩ : ∃ K : Rg, K = R := ⟨R, rfl⟩
  obtain ⟨h, k0, k1, hf, hro⟩ := sqOk_iff.1 hc
  simp only [cond_true, cond_false] at hro
  obtain ⟨k, rfl⟩ : ∃ j : Nat, k = (j : Int) := ⟨k.toNat, by omega⟩
  have hs := val_sz h
  unfold dmG
  unfold crDc_t
  show cond _ _ _ = _
  by_cases hp : 0 < K.length
  · have bb : boxB K = true := by unfold boxB; rw [valGB_t h, decide_eq_true hp]; rfl
    have e2 : bLY K = loY K := by unfold bLY; rw [bb]; rfl
    have e4 : bHY K = hiY K := by unfold bHY; rw [bb]; rfl
    obtain ⟨b1, _, _, ⟨x1, b4⟩, ⟨x2, b5⟩⟩ := box_ok h hp
    have m4 := mem_in h b4
    have m5 := mem_in h b5
    have a4 := b1 _ _ b4
    obtain ⟨rk, hrk⟩ : ∃ z, z = (bif true then 2 * (k : Int) else 0) := ⟨_, rfl⟩
    have rk0 : 0 ≤ rk ∧ rk ≤ 128 := by simp only [cond_true, cond_false] at hrk; omega
    have erk : ro * (k : Int) = rk := by simp only [cond_true, cond_false] at hrk; rw [hro]; omega
    have w1 : IntKind.wrap .i64 rk = rk := wid (by omega) (by omega)
    have w2 : IntKind.wrap .i64 (loY K - rk) = loY K - rk := wid (by omega) (by omega)
    have w3 : IntKind.wrap .i64 (hiY K + rk) = hiY K + rk := wid (by omega) (by omega)
    obtain ⟨N, hN⟩ : ∃ N : Nat, (N : Int) = hiY K + rk - (loY K - rk) + 1 := ⟨(hiY K + rk - (loY K - rk) + 1).toNat, by omega⟩
    have w4 : IntKind.wrap .i64 (IntKind.wrap .i64 (hiY K + rk - (loY K - rk)) + (1 : Int)) = (N : Int) := by rw [wid (x := hiY K + rk - (loY K - rk)) (by omega) (by omega), wid (by omega) (by omega)]; omega
    have w5 : IntKind.wrap .i64 (loY K - rk + (k : Int)) = loY K - rk + (k : Int) := wid (by omega) (by omega)
    have hb : ∀ r ∈ K, loY K - rk ≤ r.1 ∧ r.1 < loY K - rk + (N : Int) := fun r hr => by
      obtain ⟨x, hx⟩ := rowOk_some (Ng.rows h r hr)
      have := b1 _ _ (memG_row h hr hx)
      omega
    obtain ⟨v1, v2⟩ := rwD_run (ro := ro) h (show N ≤ 20000 by omega) hb (by omega)
    obtain ⟨u1, u2, u3⟩ := ciD0_run (a := (k : Int)) (b := loY K - rk) (ro := ro) h (show N ≤ 20000 by omega) (show k ≤ 64 by omega) (cn_zero true h (loY K - rk) N)
    obtain ⟨z1, z2, _⟩ := dm_main true h hp (show k ≤ 64 by omega) hf hrk rfl hN u3
    have o2 : rgOk (ciD0_g ((k : Int), loY K - rk, (k : Int), ro) (0, tab N fun i => rowY K (loY K - rk + (i : Int)))).2.2 (loY K - rk + (k : Int)) = true := by
      unfold rgOk
      rw [decide_eq_true z1, decide_eq_true (show -100000 ≤ loY K - rk + (k : Int) by omega), decide_eq_true (show loY K - rk + (k : Int) ≤ 100000 by omega)]; rfl
    have c1 : decide ((0 : Int) ≤ (N : Int)) = true := decide_eq_true (by omega)
    have c2 : decide ((N : Int) ≤ (N : Int)) = true := decide_eq_true (Int.le_refl _)
    have c3 : decide (((24 : Nat) : Int) * (N : Int) ≤ (281474976710656 : Int)) = true := decide_eq_true (by omega)
    have c4 : decide ((N : Int) ≤ (9223372036854775807 : Int)) = true := decide_eq_true (by omega)
    simp only [hs, bb, e2, e4, erk, w1, w2, w3, w4, w5, Int.toNat_natCast, c1, c2, c3, c4, v1, v2, u1, u2, o2, z2, Nat.beq, Bool.not_true, Bool.and_self, cond_true, cond_false, Tr.val]
  · have bb : boxB K = false := by unfold boxB; rw [decide_eq_false hp, Bool.and_false]
    have e : K = [] := List.length_eq_zero_iff.1 (by omega)
    subst e
    rw [dm_none true (by omega)]
    have cn : Cn true [] 0 0 0 [] := ⟨rfl, fun i hi => absurd hi (Nat.not_lt_zero _), fun i hi => absurd hi (Nat.not_lt_zero _)⟩
    obtain ⟨u1, u2, u3⟩ := ciD0_run (a := (k : Int)) (b := 0) (ro := ro) h (show 0 ≤ 20000 by omega) (show k ≤ 64 by omega) cn
    have el : (ciD0_g ((k : Int), 0, (k : Int), ro) (0, [])).2.2 = [] := List.length_eq_zero_iff.1 (by rw [u3.len]; omega)
    have w5 : IntKind.wrap .i64 ((0 : Int) + (k : Int)) = (k : Int) := by rw [wid (by omega) (by omega)]; omega
    have o2 : rgOk [] (k : Int) = true := by
      unfold rgOk
      rw [decide_eq_true (show -100000 ≤ (k : Int) by omega), decide_eq_true (show (k : Int) ≤ 100000 by omega)]; rfl
    simp only [hs, bb, w5, u1, u2, el, o2, Nat.beq, Bool.not_false, Bool.and_self, cond_true, cond_false, Tr.val]
    rfl
noncomputable def crDc_g : List AV → Option (Tr AV)
  | [.ag [.fn 71 [], .fn 65 [], .v _ (.int .i64 ro)], .ag [.d _ _ (.prod (.int .i64) (.list (.prod (.int .i64) (.int .i64)))) R], .one (.v _ (.int .i64 k))] => some (.br (sqOk true R k ro) (.ret (.ag [.d false false (.prod (.int .i64) (.list (.prod (.int .i64) (.int .i64)))) (dmG true R k)])) (.bad 900))
  | _ => none
set_option maxHeartbeats 4000000 in
theorem crDc_ok : FunOK Try.prog 67 crDc_g := by
  refine fun_ok (by kernel_rfl) (moD_S58_ok) (moF_L52_ok) 9 (On := (opens [72])) (fun args t h => ?_)
  unfold crDc_g at h
  split at h
  · rename_i _ ro _ _ R _ k
    simp only [Option.some.injEq] at h
    subst h
    refine ⟨[.ag [.fn 71 [], .fn 65 [], .v false (.int .i64 ro)], .ag [.d false false (.prod (.int .i64) (.list (.prod (.int .i64) (.int .i64)))) R], .one (.v false (.int .i64 k))], rfl, fun fr w us h => h, fun r hr => ?_⟩
    obtain ⟨hc, hr⟩ := br_bad hr
    simp only [Tr.val, Option.some.injEq] at hr
    subst hr
    rw [crDc_tree]
    exact crDc_val ro R k hc
  · cases h
noncomputable def moF_S53 : Sums := addS 67 crDc_g moD_S58
theorem moF_S53_ok : SumOK Try.prog moF_S53 := addS_ok (crDc_ok) (moD_S58_ok)
noncomputable def ciE1_St (u : ciD1_U) (v : wiD1_V) : Stt := ⟨[.one .junk, .one .junk, .one (.v false (.int .i64 u.1)), .one (.p 0 0), .one .junk, .one .junk, .one (.p 2 0), .one (.s false 980 0 (none)), .one (.v false (.int .i64 u.2.1)), .one (.s false 940 0 (none)), .one (.v false (.int .i64 v.1)), .one .junk, .one .junk, .one .junk, .one .junk, .one .junk, .one .junk, .one .junk, .one (.v false (.int .i64 u.2.2.1)), .one (.v false (.int .i64 u.2.2.2.1)), .one .junk, .one .junk, .one .junk, .one .junk, .one .junk, .one .junk, .one .junk, .one .junk, .one .junk, .one .junk, .one .junk, .one .junk, .one .junk, .one .junk, .one .junk, .one .junk, .one .junk, .one .junk, .one .junk, .one .junk, .one .junk, .one .junk, .one .junk, .one .junk, .one .junk, .one .junk, .one .junk, .one .junk, .one .junk, .one .junk, .one .junk, .one .junk, .one .junk, .one .junk, .one .junk, .one .junk, .one .junk, .one .junk, .one .junk, .one .junk, .one .junk], [(7035, .dead), (7011, .dead), (7010, .dead), (7001, .dead), (7000, .dead), (2, .cells [.v false (Value.slice none (0 : Nat) (0 : Nat))]), (1, .dead), (0, .cells [.fn 78 [], .fn 66 [], .v false (.int .i64 u.2.2.2.2.1)]), (980, .row true false false 45 (.list (.prod (.int .i64) (.int .i64))) u.2.2.2.2.2), (940, .row true false false 45 (.list (.prod (.int .i64) (.int .i64))) v.2)], 2017⟩
noncomputable def ciE1_step (u : ciD1_U) (v : wiD1_V) : Tr (wiD1_V ⊕ (Nat × wiD1_V)) :=
  match u, v with
  | (_, _, _, _, _, q6), (q2, q7) => .br (decide (IntKind.wrap .i64 (q2 + (1 : Int)) < (↑(List.length q6) : Int))) (.br (decide ((0 : Int) ≤ IntKind.wrap .i64 (q2 - (1 : Int))) && decide (IntKind.wrap .i64 (q2 - (1 : Int)) < (↑(List.length q6) : Int))) (.br (decide (Int.toNat (IntKind.wrap .i64 (q2 - (1 : Int))) < List.length q6)) (.br (decide ((0 : Int) ≤ IntKind.wrap .i64 (q2 + (1 : Int))) && decide (IntKind.wrap .i64 (q2 + (1 : Int)) < (↑(List.length q6) : Int))) (.br (decide (Int.toNat (IntKind.wrap .i64 (q2 + (1 : Int))) < List.length q6)) (.br ((decide (List.length (el_lii q6 (IntKind.wrap .i64 (q2 - (1 : Int)))) ≤ (10000 : Nat)) && decide (List.length (el_lii q6 (IntKind.wrap .i64 (q2 + (1 : Int)))) ≤ (10000 : Nat)))) (.br (decide ((0 : Int) ≤ q2) && decide (q2 < (↑(List.length q6) : Int))) (.br (decide (Int.toNat q2 < List.length q6)) (.br (grOk (el_lii q6 q2) (1 : Int)) (.br ((decide (List.length (chL (el_lii q6 (IntKind.wrap .i64 (q2 - (1 : Int)))) (el_lii q6 (IntKind.wrap .i64 (q2 + (1 : Int)))) (1 : Int)) ≤ (10000 : Nat)) && decide (List.length (wdR false (el_lii q6 q2) (1 : Int)) ≤ (10000 : Nat)))) (.br (decide ((List.length q7 + (1 : Nat)) * (24 : Nat) ≤ maxNew) && decide (List.length q7 + (1 : Nat) ≤ maxLen)) (.ret (.inl (IntKind.wrap .i64 (q2 + (1 : Int)), q7 ++ [chL (chL (el_lii q6 (IntKind.wrap .i64 (q2 - (1 : Int)))) (el_lii q6 (IntKind.wrap .i64 (q2 + (1 : Int)))) (1 : Int)) (wdR false (el_lii q6 q2) (1 : Int)) (1 : Int)]))) (.bad 71)) (.bad 116)) (.bad 900)) (.bad 12)) (.bad 31)) (.bad 116)) (.bad 12)) (.bad 31)) (.bad 12)) (.bad 31)) (.ret (.inr (0, (q2, q7))))
set_option maxRecDepth 100000 in
set_option maxHeartbeats 4000000 in
theorem ciE1_step_eq : ∀ (u : ciD1_U) (v : wiD1_V), (evalC Try.prog (evalB Try.prog moF_S53 (opens [72]) moF_L52 7).1 (evalB Try.prog moF_S53 (opens [72]) moF_L52 7).2 (opens [72]) (moF_L52 67) 100000 (0 :: [0, 1, 0, 1, 0, 0, 1, 1, 0, 0, 1, 0, 1, 1]) (loopOf (bodyOf Try.prog 67) [1, 1, 0, 1, 0, 0, 1, 1, 0, 0, 1, 0, 1, 0]) (ciE1_St u v) []).bind (finF [0, 1, 4, 5, 11, 12, 13, 14, 15, 16, 17, 20, 21, 22, 23, 24, 25, 26, 27, 28, 29, 30, 31, 32, 33, 34, 35, 36, 37, 38, 39, 40, 41, 42, 43, 44, 45, 46, 47, 48, 49, 50, 51, 52, 53, 54, 55, 56, 57, 58, 59, 60] [⟨940, some 9, 0, 0, 45, (.list (.prod (.int .i64) (.int .i64)))⟩] [7035, 7011, 7010, 7001, 7000, 2, 1, 0, 980, 940] [7035, 7011, 7010, 7001, 7000, 1, 2047] 2017) = (ciE1_step u v).bind (outA (ciE1_St u) [.exit 2]) := by
  rintro ⟨q0, q1, q3, q4, q5, q6⟩ ⟨q2, q7⟩
  kernel_rfl
noncomputable def ciE1_rd (b : Bool) (o2 : Option AV) (o3 : Option AV) (o6 : Option AV) (o7 : Option AV) (o8 : Option AV) (o9 : Option AV) (o10 : Option AV) (o18 : Option AV) (o19 : Option AV) (own : Own) : Option (ciD1_U × wiD1_V) := zrT b <| zrO o2 fun za1 => zrA1 za1 fun zc2 => zrI .i64 zc2 fun q0 => zrO o3 fun za3 => zrA1 za3 fun zc4 => zrP 0 0 zc4 <| zrO o6 fun za5 => zrA1 za5 fun zc6 => zrP 2 0 zc6 <| zrO o7 fun za7 => zrA1 za7 fun zc8 => zrSl 980 0 (none) zc8 <| zrO o8 fun za9 => zrA1 za9 fun zc10 => zrI .i64 zc10 fun q1 => zrO o9 fun za11 => zrA1 za11 fun zc12 => zrSl 940 0 (none) zc12 <| zrO o10 fun za13 => zrA1 za13 fun zc14 => zrI .i64 zc14 fun q2 => zrO o18 fun za15 => zrA1 za15 fun zc16 => zrI .i64 zc16 fun q3 => zrO o19 fun za17 => zrA1 za17 fun zc18 => zrI .i64 zc18 fun q4 => zrL own fun zq19 zw20 => zrKey 7035 zq19 fun zk21 => zrX zk21 <| zrL zw20 fun zq22 zw23 => zrKey 7011 zq22 fun zk24 => zrX zk24 <| zrL zw23 fun zq25 zw26 => zrKey 7010 zq25 fun zk27 => zrX zk27 <| zrL zw26 fun zq28 zw29 => zrKey 7001 zq28 fun zk30 => zrX zk30 <| zrL zw29 fun zq31 zw32 => zrKey 7000 zq31 fun zk33 => zrX zk33 <| zrL zw32 fun zq34 zw35 => zrKey 2 zq34 fun zk36 => zrC zk36 fun zl37 => zrL zl37 fun zc38 zr39 => zrNil zc38 <| zrN zr39 <| zrL zw35 fun zq40 zw41 => zrKey 1 zq40 fun zk42 => zrX zk42 <| zrL zw41 fun zq43 zw44 => zrKey 0 zq43 fun zk45 => zrC zk45 fun zl46 => zrL zl46 fun zc47 zr48 => zrF 78 [] zc47 <| zrL zr48 fun zc49 zr50 => zrF 66 [] zc49 <| zrL zr50 fun zc51 zr52 => zrI .i64 zc51 fun q5 => zrN zr52 <| zrL zw44 fun zq53 zw54 => zrKey 980 zq53 fun zk55 => zrR true 45 (.list (.prod (.int .i64) (.int .i64))) zk55 fun q6 => zrL zw54 fun zq56 zw57 => zrKey 940 zq56 fun zk58 => zrR true 45 (.list (.prod (.int .i64) (.int .i64))) zk58 fun q7 => zrN zw57 <| some ((q0, q1, q3, q4, q5, q6), (q2, q7))
noncomputable def ciE1_read (st : Stt) : Option (ciD1_U × wiD1_V) := ciE1_rd (ciD1_cok st && (staysA [⟨940, some 9, 0, 0, 45, (.list (.prod (.int .i64) (.int .i64)))⟩] [7035, 7011, 7010, 7001, 7000, 2, 1, 0, 980, 940] st.own && juAll [0, 1, 4, 5, 11, 12, 13, 14, 15, 16, 17, 20, 21, 22, 23, 24, 25, 26, 27, 28, 29, 30, 31, 32, 33, 34, 35, 36, 37, 38, 39, 40, 41, 42, 43, 44, 45, 46, 47, 48, 49, 50, 51, 52, 53, 54, 55, 56, 57, 58, 59, 60] (ciD1_can st).tm 61)) (ciD1_can st).tm[2]? (ciD1_can st).tm[3]? (ciD1_can st).tm[6]? (ciD1_can st).tm[7]? (ciD1_can st).tm[8]? (ciD1_can st).tm[9]? (ciD1_can st).tm[10]? (ciD1_can st).tm[18]? (ciD1_can st).tm[19]? (ciD1_can st).own
set_option maxRecDepth 100000 in
set_option maxHeartbeats 4000000 in
theorem ciE1_rd_ok {b : Bool} {tm : List AV} {own : Own} {u : ciD1_U} {v : wiD1_V} (hj : b = true → juAll [0, 1, 4, 5, 11, 12, 13, 14, 15, 16, 17, 20, 21, 22, 23, 24, 25, 26, 27, 28, 29, 30, 31, 32, 33, 34, 35, 36, 37, 38, 39, 40, 41, 42, 43, 44, 45, 46, 47, 48, 49, 50, 51, 52, 53, 54, 55, 56, 57, 58, 59, 60] tm 61 = true) (h : ciE1_rd b tm[2]? tm[3]? tm[6]? tm[7]? tm[8]? tm[9]? tm[10]? tm[18]? tm[19]? own = some (u, v)) : b = true ∧ tm = (ciE1_St u v).tm ∧ own = (ciE1_St u v).own := by
  unfold ciE1_rd at h
  obtain ⟨rfl, h0⟩ := zrT_some h
  obtain ⟨za1, e2, h1⟩ := zrO_some h0
  obtain ⟨zc2, rfl, h2⟩ := zrA1_some h1
  obtain ⟨q0, rfl, h3⟩ := zrI_some h2
  obtain ⟨za3, e3, h4⟩ := zrO_some h3
  obtain ⟨zc4, rfl, h5⟩ := zrA1_some h4
  obtain ⟨rfl, h6⟩ := zrP_some h5
  obtain ⟨za5, e6, h7⟩ := zrO_some h6
  obtain ⟨zc6, rfl, h8⟩ := zrA1_some h7
  obtain ⟨rfl, h9⟩ := zrP_some h8
  obtain ⟨za7, e7, h10⟩ := zrO_some h9
  obtain ⟨zc8, rfl, h11⟩ := zrA1_some h10
  obtain ⟨rfl, h12⟩ := zrSl_some h11
  obtain ⟨za9, e8, h13⟩ := zrO_some h12
  obtain ⟨zc10, rfl, h14⟩ := zrA1_some h13
  obtain ⟨q1, rfl, h15⟩ := zrI_some h14
  obtain ⟨za11, e9, h16⟩ := zrO_some h15
  obtain ⟨zc12, rfl, h17⟩ := zrA1_some h16
  obtain ⟨rfl, h18⟩ := zrSl_some h17
  obtain ⟨za13, e10, h19⟩ := zrO_some h18
  obtain ⟨zc14, rfl, h20⟩ := zrA1_some h19
  obtain ⟨q2, rfl, h21⟩ := zrI_some h20
  obtain ⟨za15, e18, h22⟩ := zrO_some h21
  obtain ⟨zc16, rfl, h23⟩ := zrA1_some h22
  obtain ⟨q3, rfl, h24⟩ := zrI_some h23
  obtain ⟨za17, e19, h25⟩ := zrO_some h24
  obtain ⟨zc18, rfl, h26⟩ := zrA1_some h25
  obtain ⟨q4, rfl, h27⟩ := zrI_some h26
  obtain ⟨zq19, zw20, rfl, h28⟩ := zrL_some h27
  obtain ⟨zk21, rfl, h29⟩ := zrKey_some h28
  obtain ⟨rfl, h30⟩ := zrX_some h29
  obtain ⟨zq22, zw23, rfl, h31⟩ := zrL_some h30
  obtain ⟨zk24, rfl, h32⟩ := zrKey_some h31
  obtain ⟨rfl, h33⟩ := zrX_some h32
  obtain ⟨zq25, zw26, rfl, h34⟩ := zrL_some h33
  obtain ⟨zk27, rfl, h35⟩ := zrKey_some h34
  obtain ⟨rfl, h36⟩ := zrX_some h35
  obtain ⟨zq28, zw29, rfl, h37⟩ := zrL_some h36
  obtain ⟨zk30, rfl, h38⟩ := zrKey_some h37
  obtain ⟨rfl, h39⟩ := zrX_some h38
  obtain ⟨zq31, zw32, rfl, h40⟩ := zrL_some h39
  obtain ⟨zk33, rfl, h41⟩ := zrKey_some h40
  obtain ⟨rfl, h42⟩ := zrX_some h41
  obtain ⟨zq34, zw35, rfl, h43⟩ := zrL_some h42
  obtain ⟨zk36, rfl, h44⟩ := zrKey_some h43
  obtain ⟨zl37, rfl, h45⟩ := zrC_some h44
  obtain ⟨zc38, zr39, rfl, h46⟩ := zrL_some h45
  obtain ⟨rfl, h47⟩ := zrNil_some h46
  obtain ⟨rfl, h48⟩ := zrN_some h47
  obtain ⟨zq40, zw41, rfl, h49⟩ := zrL_some h48
  obtain ⟨zk42, rfl, h50⟩ := zrKey_some h49
  obtain ⟨rfl, h51⟩ := zrX_some h50
  obtain ⟨zq43, zw44, rfl, h52⟩ := zrL_some h51
  obtain ⟨zk45, rfl, h53⟩ := zrKey_some h52
  obtain ⟨zl46, rfl, h54⟩ := zrC_some h53
  obtain ⟨zc47, zr48, rfl, h55⟩ := zrL_some h54
  obtain ⟨rfl, h56⟩ := zrF_some h55
  obtain ⟨zc49, zr50, rfl, h57⟩ := zrL_some h56
  obtain ⟨rfl, h58⟩ := zrF_some h57
  obtain ⟨zc51, zr52, rfl, h59⟩ := zrL_some h58
  obtain ⟨q5, rfl, h60⟩ := zrI_some h59
  obtain ⟨rfl, h61⟩ := zrN_some h60
  obtain ⟨zq53, zw54, rfl, h62⟩ := zrL_some h61
  obtain ⟨zk55, rfl, h63⟩ := zrKey_some h62
  obtain ⟨q6, rfl, h64⟩ := zrR_some h63
  obtain ⟨zq56, zw57, rfl, h65⟩ := zrL_some h64
  obtain ⟨zk58, rfl, h66⟩ := zrKey_some h65
  obtain ⟨q7, rfl, h67⟩ := zrR_some h66
  obtain ⟨rfl, h68⟩ := zrN_some h67
  have h := Option.some.inj h68
  have hu := congrArg Prod.fst h
  have hv := congrArg Prod.snd h
  dsimp only at hu hv
  subst hu
  subst hv
  exact ⟨rfl, (tm_fill (hj rfl) (Lv := [(2, .one (.v false (.int .i64 q0))), (3, .one (.p 0 0)), (6, .one (.p 2 0)), (7, .one (.s false 980 0 (none))), (8, .one (.v false (.int .i64 q1))), (9, .one (.s false 940 0 (none))), (10, .one (.v false (.int .i64 q2))), (18, .one (.v false (.int .i64 q3))), (19, .one (.v false (.int .i64 q4)))]) (by kernel_rfl) ⟨e2, e3, e6, e7, e8, e9, e10, e18, e19, trivial⟩).trans (by kernel_rfl), rfl⟩
theorem ciE1_read_ok (st : Stt) (u : ciD1_U) (v : wiD1_V) (h : ciE1_read st = some (u, v)) : ciD1_cok st = true ∧ staysA [⟨940, some 9, 0, 0, 45, (.list (.prod (.int .i64) (.int .i64)))⟩] [7035, 7011, 7010, 7001, 7000, 2, 1, 0, 980, 940] st.own = true ∧ ciD1_can st = ciE1_St u v := by
  obtain ⟨h1, h2, h3⟩ := ciE1_rd_ok (fun hb => by rw [Bool.and_eq_true, Bool.and_eq_true] at hb; exact hb.2.2) h
  rw [Bool.and_eq_true, Bool.and_eq_true] at h1
  refine ⟨h1.1, h1.2.1, ?_⟩
  have e : ciD1_can st = ⟨(ciD1_can st).tm, (ciD1_can st).own, 2017⟩ := by kernel_rfl
  rw [e, h2, h3]
  rfl
noncomputable def ciE1_cond (u : ciD1_U) (v : wiD1_V) : Bool := runC (ciE1_step u) v
noncomputable def ciE1_g (u : ciD1_U) (v : wiD1_V) : Nat × wiD1_V := runG (ciE1_step u) v
theorem ciE1_hg : ∀ (u : ciD1_U) (v : wiD1_V), ciE1_cond u v = true → loopN (ciE1_step u) ((fun u v => runF (ciE1_step u) v) u v) v = some (ciE1_g u v) := by
  exact fun u v h => run_hg h
noncomputable def ciE1_m (st : Stt) : Option (Tr (Ex × Stt)) := sumM ciE1_read ciE1_cond ciE1_St ciE1_g [(0, .exit 2)] st
noncomputable def moF_L54 : FuncId → Loops := addL 67 [0, 1, 0, 1, 0, 0, 1, 1, 0, 0, 1, 0, 1, 1] ciE1_m moF_L52
set_option maxRecDepth 100000 in
set_option maxHeartbeats 4000000 in
theorem moF_L54_ok : LoopsOK Try.prog moF_L54 :=
  loop_sumF (body := (bodyOf Try.prog 67)) (c := (loopOf (bodyOf Try.prog 67) [1, 1, 0, 1, 0, 0, 1, 1, 0, 0, 1, 0, 1, 0])) (kinds := [.exit 2]) (allow := [(0, .exit 2)]) (St := ciE1_St) (step := ciE1_step) (W := [0, 1, 4, 5, 11, 12, 13, 14, 15, 16, 17, 20, 21, 22, 23, 24, 25, 26, 27, 28, 29, 30, 31, 32, 33, 34, 35, 36, 37, 38, 39, 40, 41, 42, 43, 44, 45, 46, 47, 48, 49, 50, 51, 52, 53, 54, 55, 56, 57, 58, 59, 60]) (As := [⟨940, some 9, 0, 0, 45, (.list (.prod (.int .i64) (.int .i64)))⟩]) (ks := [7035, 7011, 7010, 7001, 7000, 2, 1, 0, 980, 940]) (dd := [7035, 7011, 7010, 7001, 7000, 1, 2047]) (nx := 2017) (n := 100000) (g := ciE1_g) (cond := ciE1_cond) (fuel := (fun u v => runF (ciE1_step u) v)) (read := ciE1_read) (by kernel_rfl) (moF_S53_ok) (moF_L52_ok) 7 ⟨Try.f67, by kernel_rfl, by kernel_rfl⟩ (by kernel_rfl) (by kernel_rfl) (by kernel_rfl) ciE1_step_eq ciE1_hg ciE1_read_ok
noncomputable def ciE0_St (u : sqD_U) (v : wiD1_V) : Stt := ⟨[.one .junk, .one .junk, .one (.v false (.int .i64 u.1)), .one (.p 0 0), .one .junk, .one .junk, .one (.p 2 0), .one (.s false 980 0 (none)), .one (.v false (.int .i64 u.2.1)), .one .junk, .one .junk, .one .junk, .one .junk, .one .junk, .one .junk, .one .junk, .one .junk, .one .junk, .one (.v false (.int .i64 u.2.2.1)), .one (.v false (.int .i64 v.1)), .one .junk, .one .junk, .one .junk, .one .junk, .one .junk, .one .junk, .one .junk, .one .junk, .one .junk, .one .junk, .one .junk, .one .junk, .one .junk, .one .junk, .one .junk, .one .junk, .one .junk, .one .junk, .one .junk, .one .junk, .one .junk, .one .junk, .one .junk, .one .junk, .one .junk, .one .junk, .one .junk, .one .junk, .one .junk, .one .junk, .one .junk, .one .junk, .one .junk, .one .junk, .one .junk, .one .junk, .one .junk, .one .junk, .one .junk, .one .junk, .one .junk], [(7035, .dead), (7011, .dead), (7010, .dead), (7001, .dead), (7000, .dead), (2, .cells [.v false (Value.slice none (0 : Nat) (0 : Nat))]), (1, .dead), (0, .cells [.fn 78 [], .fn 66 [], .v false (.int .i64 u.2.2.2)]), (980, .row true false false 45 (.list (.prod (.int .i64) (.int .i64))) v.2)], 1014⟩
noncomputable def ciE0_step (u : sqD_U) (v : wiD1_V) : Tr (wiD1_V ⊕ (Nat × wiD1_V)) :=
  match u, v with
  | (q0, q1, q2, q4), (q3, q5) => .br (decide (q3 < q2)) (.br (ciE1_cond (q0, q1, q2, q3, q4, q5) ((1 : Int), [])) (.br (Nat.beq (Prod.fst (ciE1_g (q0, q1, q2, q3, q4, q5) ((1 : Int), []))) (0 : Nat)) (.ret (.inl (IntKind.wrap .i64 (q3 + (1 : Int)), Prod.snd (Prod.snd (ciE1_g (q0, q1, q2, q3, q4, q5) ((1 : Int), [])))))) (.bad 902)) (.bad 901)) (.ret (.inr (0, (q3, q5))))
set_option maxRecDepth 100000 in
set_option maxHeartbeats 4000000 in
theorem ciE0_step_eq : ∀ (u : sqD_U) (v : wiD1_V), (evalC Try.prog (evalB Try.prog moF_S53 (opens [72]) moF_L54 7).1 (evalB Try.prog moF_S53 (opens [72]) moF_L54 7).2 (opens [72]) (moF_L54 67) 100000 (0 :: [0, 1, 0, 1, 1]) (loopOf (bodyOf Try.prog 67) [1, 1, 0, 1, 0]) (ciE0_St u v) []).bind (finF [0, 1, 4, 5, 9, 10, 11, 12, 13, 14, 15, 16, 17, 20, 21, 22, 23, 24, 25, 26, 27, 28, 29, 30, 31, 32, 33, 34, 35, 36, 37, 38, 39, 40, 41, 42, 43, 44, 45, 46, 47, 48, 49, 50, 51, 52, 53, 54, 55, 56, 57, 58, 59, 60] [⟨980, some 7, 0, 0, 45, (.list (.prod (.int .i64) (.int .i64)))⟩] [7035, 7011, 7010, 7001, 7000, 2, 1, 0, 980] [7035, 7011, 7010, 7001, 7000, 1, 940] 1014) = (ciE0_step u v).bind (outA (ciE0_St u) [.exit 0]) := by
  rintro ⟨q0, q1, q2, q4⟩ ⟨q3, q5⟩
  kernel_rfl
noncomputable def ciE0_rd (b : Bool) (o2 : Option AV) (o3 : Option AV) (o6 : Option AV) (o7 : Option AV) (o8 : Option AV) (o18 : Option AV) (o19 : Option AV) (own : Own) : Option (sqD_U × wiD1_V) := zrT b <| zrO o2 fun za1 => zrA1 za1 fun zc2 => zrI .i64 zc2 fun q0 => zrO o3 fun za3 => zrA1 za3 fun zc4 => zrP 0 0 zc4 <| zrO o6 fun za5 => zrA1 za5 fun zc6 => zrP 2 0 zc6 <| zrO o7 fun za7 => zrA1 za7 fun zc8 => zrSl 980 0 (none) zc8 <| zrO o8 fun za9 => zrA1 za9 fun zc10 => zrI .i64 zc10 fun q1 => zrO o18 fun za11 => zrA1 za11 fun zc12 => zrI .i64 zc12 fun q2 => zrO o19 fun za13 => zrA1 za13 fun zc14 => zrI .i64 zc14 fun q3 => zrL own fun zq15 zw16 => zrKey 7035 zq15 fun zk17 => zrX zk17 <| zrL zw16 fun zq18 zw19 => zrKey 7011 zq18 fun zk20 => zrX zk20 <| zrL zw19 fun zq21 zw22 => zrKey 7010 zq21 fun zk23 => zrX zk23 <| zrL zw22 fun zq24 zw25 => zrKey 7001 zq24 fun zk26 => zrX zk26 <| zrL zw25 fun zq27 zw28 => zrKey 7000 zq27 fun zk29 => zrX zk29 <| zrL zw28 fun zq30 zw31 => zrKey 2 zq30 fun zk32 => zrC zk32 fun zl33 => zrL zl33 fun zc34 zr35 => zrNil zc34 <| zrN zr35 <| zrL zw31 fun zq36 zw37 => zrKey 1 zq36 fun zk38 => zrX zk38 <| zrL zw37 fun zq39 zw40 => zrKey 0 zq39 fun zk41 => zrC zk41 fun zl42 => zrL zl42 fun zc43 zr44 => zrF 78 [] zc43 <| zrL zr44 fun zc45 zr46 => zrF 66 [] zc45 <| zrL zr46 fun zc47 zr48 => zrI .i64 zc47 fun q4 => zrN zr48 <| zrL zw40 fun zq49 zw50 => zrKey 980 zq49 fun zk51 => zrR true 45 (.list (.prod (.int .i64) (.int .i64))) zk51 fun q5 => zrN zw50 <| some ((q0, q1, q2, q4), (q3, q5))
noncomputable def ciE0_read (st : Stt) : Option (sqD_U × wiD1_V) := ciE0_rd (ciD0_cok st && (staysA [⟨980, some 7, 0, 0, 45, (.list (.prod (.int .i64) (.int .i64)))⟩] [7035, 7011, 7010, 7001, 7000, 2, 1, 0, 980] st.own && juAll [0, 1, 4, 5, 9, 10, 11, 12, 13, 14, 15, 16, 17, 20, 21, 22, 23, 24, 25, 26, 27, 28, 29, 30, 31, 32, 33, 34, 35, 36, 37, 38, 39, 40, 41, 42, 43, 44, 45, 46, 47, 48, 49, 50, 51, 52, 53, 54, 55, 56, 57, 58, 59, 60] (ciD0_can st).tm 61)) (ciD0_can st).tm[2]? (ciD0_can st).tm[3]? (ciD0_can st).tm[6]? (ciD0_can st).tm[7]? (ciD0_can st).tm[8]? (ciD0_can st).tm[18]? (ciD0_can st).tm[19]? (ciD0_can st).own
set_option maxRecDepth 100000 in
set_option maxHeartbeats 4000000 in
theorem ciE0_rd_ok {b : Bool} {tm : List AV} {own : Own} {u : sqD_U} {v : wiD1_V} (hj : b = true → juAll [0, 1, 4, 5, 9, 10, 11, 12, 13, 14, 15, 16, 17, 20, 21, 22, 23, 24, 25, 26, 27, 28, 29, 30, 31, 32, 33, 34, 35, 36, 37, 38, 39, 40, 41, 42, 43, 44, 45, 46, 47, 48, 49, 50, 51, 52, 53, 54, 55, 56, 57, 58, 59, 60] tm 61 = true) (h : ciE0_rd b tm[2]? tm[3]? tm[6]? tm[7]? tm[8]? tm[18]? tm[19]? own = some (u, v)) : b = true ∧ tm = (ciE0_St u v).tm ∧ own = (ciE0_St u v).own := by
  unfold ciE0_rd at h
  obtain ⟨rfl, h0⟩ := zrT_some h
  obtain ⟨za1, e2, h1⟩ := zrO_some h0
  obtain ⟨zc2, rfl, h2⟩ := zrA1_some h1
  obtain ⟨q0, rfl, h3⟩ := zrI_some h2
  obtain ⟨za3, e3, h4⟩ := zrO_some h3
  obtain ⟨zc4, rfl, h5⟩ := zrA1_some h4
  obtain ⟨rfl, h6⟩ := zrP_some h5
  obtain ⟨za5, e6, h7⟩ := zrO_some h6
  obtain ⟨zc6, rfl, h8⟩ := zrA1_some h7
  obtain ⟨rfl, h9⟩ := zrP_some h8
  obtain ⟨za7, e7, h10⟩ := zrO_some h9
  obtain ⟨zc8, rfl, h11⟩ := zrA1_some h10
  obtain ⟨rfl, h12⟩ := zrSl_some h11
  obtain ⟨za9, e8, h13⟩ := zrO_some h12
  obtain ⟨zc10, rfl, h14⟩ := zrA1_some h13
  obtain ⟨q1, rfl, h15⟩ := zrI_some h14
  obtain ⟨za11, e18, h16⟩ := zrO_some h15
  obtain ⟨zc12, rfl, h17⟩ := zrA1_some h16
  obtain ⟨q2, rfl, h18⟩ := zrI_some h17
  obtain ⟨za13, e19, h19⟩ := zrO_some h18
  obtain ⟨zc14, rfl, h20⟩ := zrA1_some h19
  obtain ⟨q3, rfl, h21⟩ := zrI_some h20
  obtain ⟨zq15, zw16, rfl, h22⟩ := zrL_some h21
  obtain ⟨zk17, rfl, h23⟩ := zrKey_some h22
  obtain ⟨rfl, h24⟩ := zrX_some h23
  obtain ⟨zq18, zw19, rfl, h25⟩ := zrL_some h24
  obtain ⟨zk20, rfl, h26⟩ := zrKey_some h25
  obtain ⟨rfl, h27⟩ := zrX_some h26
  obtain ⟨zq21, zw22, rfl, h28⟩ := zrL_some h27
  obtain ⟨zk23, rfl, h29⟩ := zrKey_some h28
  obtain ⟨rfl, h30⟩ := zrX_some h29
  obtain ⟨zq24, zw25, rfl, h31⟩ := zrL_some h30
  obtain ⟨zk26, rfl, h32⟩ := zrKey_some h31
  obtain ⟨rfl, h33⟩ := zrX_some h32
  obtain ⟨zq27, zw28, rfl, h34⟩ := zrL_some h33
  obtain ⟨zk29, rfl, h35⟩ := zrKey_some h34
  obtain ⟨rfl, h36⟩ := zrX_some h35
  obtain ⟨zq30, zw31, rfl, h37⟩ := zrL_some h36
  obtain ⟨zk32, rfl, h38⟩ := zrKey_some h37
  obtain ⟨zl33, rfl, h39⟩ := zrC_some h38
  obtain ⟨zc34, zr35, rfl, h40⟩ := zrL_some h39
  obtain ⟨rfl, h41⟩ := zrNil_some h40
  obtain ⟨rfl, h42⟩ := zrN_some h41
  obtain ⟨zq36, zw37, rfl, h43⟩ := zrL_some h42
  obtain ⟨zk38, rfl, h44⟩ := zrKey_some h43
  obtain ⟨rfl, h45⟩ := zrX_some h44
  obtain ⟨zq39, zw40, rfl, h46⟩ := zrL_some h45
  obtain ⟨zk41, rfl, h47⟩ := zrKey_some h46
  obtain ⟨zl42, rfl, h48⟩ := zrC_some h47
  obtain ⟨zc43, zr44, rfl, h49⟩ := zrL_some h48
  obtain ⟨rfl, h50⟩ := zrF_some h49
  obtain ⟨zc45, zr46, rfl, h51⟩ := zrL_some h50
  obtain ⟨rfl, h52⟩ := zrF_some h51
  obtain ⟨zc47, zr48, rfl, h53⟩ := zrL_some h52
  obtain ⟨q4, rfl, h54⟩ := zrI_some h53
  obtain ⟨rfl, h55⟩ := zrN_some h54
  obtain ⟨zq49, zw50, rfl, h56⟩ := zrL_some h55
  obtain ⟨zk51, rfl, h57⟩ := zrKey_some h56
  obtain ⟨q5, rfl, h58⟩ := zrR_some h57
  obtain ⟨rfl, h59⟩ := zrN_some h58
  have h := Option.some.inj h59
  have hu := congrArg Prod.fst h
  have hv := congrArg Prod.snd h
  dsimp only at hu hv
  subst hu
  subst hv
  exact ⟨rfl, (tm_fill (hj rfl) (Lv := [(2, .one (.v false (.int .i64 q0))), (3, .one (.p 0 0)), (6, .one (.p 2 0)), (7, .one (.s false 980 0 (none))), (8, .one (.v false (.int .i64 q1))), (18, .one (.v false (.int .i64 q2))), (19, .one (.v false (.int .i64 q3)))]) (by kernel_rfl) ⟨e2, e3, e6, e7, e8, e18, e19, trivial⟩).trans (by kernel_rfl), rfl⟩
theorem ciE0_read_ok (st : Stt) (u : sqD_U) (v : wiD1_V) (h : ciE0_read st = some (u, v)) : ciD0_cok st = true ∧ staysA [⟨980, some 7, 0, 0, 45, (.list (.prod (.int .i64) (.int .i64)))⟩] [7035, 7011, 7010, 7001, 7000, 2, 1, 0, 980] st.own = true ∧ ciD0_can st = ciE0_St u v := by
  obtain ⟨h1, h2, h3⟩ := ciE0_rd_ok (fun hb => by rw [Bool.and_eq_true, Bool.and_eq_true] at hb; exact hb.2.2) h
  rw [Bool.and_eq_true, Bool.and_eq_true] at h1
  refine ⟨h1.1, h1.2.1, ?_⟩
  have e : ciD0_can st = ⟨(ciD0_can st).tm, (ciD0_can st).own, 1014⟩ := by kernel_rfl
  rw [e, h2, h3]
  rfl
noncomputable def ciE0_cond (u : sqD_U) (v : wiD1_V) : Bool := runC (ciE0_step u) v
noncomputable def ciE0_g (u : sqD_U) (v : wiD1_V) : Nat × wiD1_V := runG (ciE0_step u) v
theorem ciE0_hg : ∀ (u : sqD_U) (v : wiD1_V), ciE0_cond u v = true → loopN (ciE0_step u) ((fun u v => runF (ciE0_step u) v) u v) v = some (ciE0_g u v) := by
  exact fun u v h => run_hg h
noncomputable def ciE0_m (st : Stt) : Option (Tr (Ex × Stt)) := sumM ciE0_read ciE0_cond ciE0_St ciE0_g [(0, .exit 0)] st
noncomputable def moF_L55 : FuncId → Loops := addL 67 [0, 1, 0, 1, 1] ciE0_m moF_L54
set_option maxRecDepth 100000 in
set_option maxHeartbeats 4000000 in
theorem moF_L55_ok : LoopsOK Try.prog moF_L55 :=
  loop_sumF (body := (bodyOf Try.prog 67)) (c := (loopOf (bodyOf Try.prog 67) [1, 1, 0, 1, 0])) (kinds := [.exit 0]) (allow := [(0, .exit 0)]) (St := ciE0_St) (step := ciE0_step) (W := [0, 1, 4, 5, 9, 10, 11, 12, 13, 14, 15, 16, 17, 20, 21, 22, 23, 24, 25, 26, 27, 28, 29, 30, 31, 32, 33, 34, 35, 36, 37, 38, 39, 40, 41, 42, 43, 44, 45, 46, 47, 48, 49, 50, 51, 52, 53, 54, 55, 56, 57, 58, 59, 60]) (As := [⟨980, some 7, 0, 0, 45, (.list (.prod (.int .i64) (.int .i64)))⟩]) (ks := [7035, 7011, 7010, 7001, 7000, 2, 1, 0, 980]) (dd := [7035, 7011, 7010, 7001, 7000, 1, 940]) (nx := 1014) (n := 100000) (g := ciE0_g) (cond := ciE0_cond) (fuel := (fun u v => runF (ciE0_step u) v)) (read := ciE0_read) (by kernel_rfl) (moF_S53_ok) (moF_L54_ok) 7 ⟨Try.f67, by kernel_rfl, by kernel_rfl⟩ (by kernel_rfl) (by kernel_rfl) (by kernel_rfl) ciE0_step_eq ciE0_hg ciE0_read_ok
theorem ciE1_run {R : Rg} {F : Int} {N t : Nat} {W : List Rl} {a b c d ro : Int} (h : valG R) (hN : N ≤ 20000) (ht : t < 65) (cn : Cn false R F N t W) : ciE1_cond (a, b, c, d, ro, W) (1, []) = true ∧ (ciE1_g (a, b, c, d, ro, W) (1, [])).1 = 0 ∧ Cn false R F N (t + 1) (ciE1_g (a, b, c, d, ro, W) (1, [])).2.2 := by
  have hW : W.length ≤ 20000 := by have := cn.len; omega
  have hs := cn_step h ht cn
  have R1 := run_steps (step := ciE1_step (a, b, c, d, ro, W)) (St := fun j => (((j + 1 : Nat) : Int), tab j fun i => chL (chL (W.getD i []) (W.getD (i + 2) []) (anq false)) (wdR false (W.getD (i + 1) []) 1) (anq false))) (n := W.length - 2) (t := (0, (((W.length - 2 + 1 : Nat) : Int), tab (W.length - 2) fun i => chL (chL (W.getD i []) (W.getD (i + 2) []) (anq false)) (wdR false (W.getD (i + 1) []) 1) (anq false)))) (by
    have w : IntKind.wrap .i64 (((W.length - 2 + 1 : Nat) : Int) + (1 : Int)) = ((W.length - 2 + 2 : Nat) : Int) := by rw [wid (by omega) (by omega)]; omega
    have e : decide (((W.length - 2 + 2 : Nat) : Int) < (W.length : Int)) = false := decide_eq_false (by omega)
    simp only [ciE1_step, Tr.val, w, e, cond_false]) (W.length - 2) 0 (Nat.zero_add _) (fun j _ hj => by
    have w1 : IntKind.wrap .i64 (((j + 1 : Nat) : Int) + (1 : Int)) = ((j + 1 + 1 : Nat) : Int) := by rw [wid (by omega) (by omega)]; omega
    have w2 : IntKind.wrap .i64 (((j + 1 : Nat) : Int) - (1 : Int)) = (j : Int) := by rw [wid (by omega) (by omega)]; omega
    have h0 : j < W.length := by omega
    have h1 : j + 1 < W.length := by omega
    have h2 : j + 1 + 1 < W.length := by omega
    obtain ⟨v0, b0⟩ := cn.val j h0
    obtain ⟨v1, b1⟩ := cn.val (j + 1) h1
    obtain ⟨v2, b2⟩ := cn.val (j + 1 + 1) h2
    have l0 := bd_len (M := 5000) v0 (bd_in v0 b0) (by omega)
    have l1 := bd_len (M := 5000) v1 (bd_in v1 b1) (by omega)
    have l2 := bd_len (M := 5000) v2 (bd_in v2 b2) (by omega)
    have g1 : grOk (W.getD (j + 1) []) (1 : Int) = true := gr_of v1 (by omega) (by omega) (by omega) fun r hr => by have := bd_in v1 b1 r hr; omega
    obtain ⟨j1, j2⟩ := ch_ok v0 v2 (anq false)
    have jb : ∀ x, memB (chL (W.getD j []) (W.getD (j + 1 + 1) []) (anq false)) x = true → -5000 ≤ x ∧ x < 5000 := fun x hx => by
      rw [j2] at hx
      exact opq_in false (b0 x) (b2 x) hx
    have l3 := bd_len (M := 5000) j1 (bd_in j1 jb) (by omega)
    obtain ⟨u1, u2⟩ := wd_ok false (k := 1) (M := 5000) v1 (bd_in v1 b1) (by omega) (by omega)
    have ub : ∀ x, memB (wdR false (W.getD (j + 1) []) 1) x = true → -5001 ≤ x ∧ x < 5001 := fun x hx => wdq_in false b1 ((u2 x).1 hx)
    have l4 := bd_len (M := 5001) u1 (bd_in u1 ub) (by omega)
    have c0 : decide ((W.getD j []).length ≤ (10000 : Nat)) = true := decide_eq_true (by omega)
    have c2 : decide ((W.getD (j + 1 + 1) []).length ≤ (10000 : Nat)) = true := decide_eq_true (by omega)
    have c3 : decide ((chL (W.getD j []) (W.getD (j + 1 + 1) []) (anq false)).length ≤ (10000 : Nat)) = true := decide_eq_true (by omega)
    have c4 : decide ((wdR false (W.getD (j + 1) []) 1).length ≤ (10000 : Nat)) = true := decide_eq_true (by omega)
    obtain ⟨r1, r2⟩ := room24 (n := j + 1) (by omega)
    rw [show anq false = (1 : Int) from rfl] at c3
    simp only [ciE1_step, Tr.val, w1, w2, lt_t h0, lt_t h1, lt_t h2, nn_t, el_w, decide_eq_true h0, decide_eq_true h1, decide_eq_true h2, Int.toNat_natCast, c0, c2, c3, c4, g1, tab_length, r1, r2, Bool.and_self, cond_true, tab_succ]
    rfl)
  refine ⟨R1.1, ?_, ?_⟩
  · rw [show ciE1_g (a, b, c, d, ro, W) (1, []) = _ from R1.2]
  · rw [show ciE1_g (a, b, c, d, ro, W) (1, []) = _ from R1.2]
    exact hs
theorem ciE0_run {R : Rg} {F b ro : Int} {N k : Nat} {a : Int} {W : List Rl} (h : valG R) (hN : N ≤ 20000) (hk : k ≤ 64) (cn : Cn false R F N 0 W) : ciE0_cond (a, b, (k : Int), ro) (0, W) = true ∧ (ciE0_g (a, b, (k : Int), ro) (0, W)).1 = 0 ∧ Cn false R F N k (ciE0_g (a, b, (k : Int), ro) (0, W)).2.2 := by
  refine run_val (step := ciE0_step (a, b, (k : Int), ro)) (Inv := fun s => ∃ (t : Nat) (l : List Rl), s = ((t : Int), l) ∧ t ≤ k ∧ Cn false R F N t l) (μ := fun s => k - s.1.toNat) (Q := fun t => t.1 = 0 ∧ Cn false R F N k t.2.2) ?_ _ _ (Nat.lt_succ_self _) ⟨0, W, rfl, by omega, cn⟩
  rintro s ⟨t, l, rfl, t1, cn⟩
  by_cases g : t < k
  · obtain ⟨v1, v2, v3⟩ := ciE1_run (a := a) (b := b) (c := (k : Int)) (d := (t : Int)) (ro := ro) h hN (show t < 65 by omega) cn
    have w1 : IntKind.wrap .i64 ((t : Int) + (1 : Int)) = ((t + 1 : Nat) : Int) := by rw [wid (by omega) (by omega)]; omega
    refine ⟨.inl (((t + 1 : Nat) : Int), (ciE1_g (a, b, (k : Int), (t : Int), ro, l) (1, [])).2.2), ?_, ⟨t + 1, _, rfl, by omega, v3⟩, by show k - ((t + 1 : Nat) : Int).toNat < k - (t : Int).toNat; omega⟩
    simp only [ciE0_step, Tr.val, lt_t g, v1, v2, w1, Nat.beq, cond_true]
  · have e : decide ((t : Int) < (k : Int)) = false := decide_eq_false (by omega)
    have : t = k := by omega
    subst this
    exact ⟨.inr (0, ((t : Int), l)), by simp only [ciE0_step, Tr.val, e, cond_false], rfl, cn⟩
noncomputable def crEc_t (ro : Int) (R : (Ty.list (.prod (.int .i64) (.list (.prod (.int .i64) (.int .i64))))).den) (k : Int) : Tr AV := .br (((szG R) && (bif !boxB R then ((ciE0_cond (k, (0 : Int), k, ro) ((0 : Int), [])) && ((Nat.beq (Prod.fst (ciE0_g (k, (0 : Int), k, ro) ((0 : Int), []))) (0 : Nat)) && (rgOk (Prod.snd (Prod.snd (ciE0_g (k, (0 : Int), k, ro) ((0 : Int), [])))) (IntKind.wrap .i64 ((0 : Int) + k))))) else ((decide ((0 : Int) ≤ IntKind.wrap .i64 (IntKind.wrap .i64 (IntKind.wrap .i64 (bHY R + IntKind.wrap .i64 (ro * k)) - IntKind.wrap .i64 (bLY R - IntKind.wrap .i64 (ro * k))) + (1 : Int))) && decide (IntKind.wrap .i64 (IntKind.wrap .i64 (IntKind.wrap .i64 (bHY R + IntKind.wrap .i64 (ro * k)) - IntKind.wrap .i64 (bLY R - IntKind.wrap .i64 (ro * k))) + (1 : Int)) ≤ IntKind.wrap .i64 (IntKind.wrap .i64 (IntKind.wrap .i64 (bHY R + IntKind.wrap .i64 (ro * k)) - IntKind.wrap .i64 (bLY R - IntKind.wrap .i64 (ro * k))) + (1 : Int))) && decide ((↑(24 : Nat) : Int) * IntKind.wrap .i64 (IntKind.wrap .i64 (IntKind.wrap .i64 (bHY R + IntKind.wrap .i64 (ro * k)) - IntKind.wrap .i64 (bLY R - IntKind.wrap .i64 (ro * k))) + (1 : Int)) ≤ (281474976710656 : Int)) && decide (IntKind.wrap .i64 (IntKind.wrap .i64 (IntKind.wrap .i64 (bHY R + IntKind.wrap .i64 (ro * k)) - IntKind.wrap .i64 (bLY R - IntKind.wrap .i64 (ro * k))) + (1 : Int)) ≤ (9223372036854775807 : Int))) && ((rwD_cond ((0 : Int), IntKind.wrap .i64 (bLY R - IntKind.wrap .i64 (ro * k)), R, (↑(List.length R) : Int), R, ro) ((0 : Int), List.replicate (Int.toNat (IntKind.wrap .i64 (IntKind.wrap .i64 (IntKind.wrap .i64 (bHY R + IntKind.wrap .i64 (ro * k)) - IntKind.wrap .i64 (bLY R - IntKind.wrap .i64 (ro * k))) + (1 : Int)))) [])) && ((Nat.beq (Prod.fst (rwD_g ((0 : Int), IntKind.wrap .i64 (bLY R - IntKind.wrap .i64 (ro * k)), R, (↑(List.length R) : Int), R, ro) ((0 : Int), List.replicate (Int.toNat (IntKind.wrap .i64 (IntKind.wrap .i64 (IntKind.wrap .i64 (bHY R + IntKind.wrap .i64 (ro * k)) - IntKind.wrap .i64 (bLY R - IntKind.wrap .i64 (ro * k))) + (1 : Int)))) []))) (0 : Nat)) && ((ciE0_cond (k, IntKind.wrap .i64 (bLY R - IntKind.wrap .i64 (ro * k)), k, ro) ((0 : Int), Prod.snd (Prod.snd (rwD_g ((0 : Int), IntKind.wrap .i64 (bLY R - IntKind.wrap .i64 (ro * k)), R, (↑(List.length R) : Int), R, ro) ((0 : Int), List.replicate (Int.toNat (IntKind.wrap .i64 (IntKind.wrap .i64 (IntKind.wrap .i64 (bHY R + IntKind.wrap .i64 (ro * k)) - IntKind.wrap .i64 (bLY R - IntKind.wrap .i64 (ro * k))) + (1 : Int)))) []))))) && ((Nat.beq (Prod.fst (ciE0_g (k, IntKind.wrap .i64 (bLY R - IntKind.wrap .i64 (ro * k)), k, ro) ((0 : Int), Prod.snd (Prod.snd (rwD_g ((0 : Int), IntKind.wrap .i64 (bLY R - IntKind.wrap .i64 (ro * k)), R, (↑(List.length R) : Int), R, ro) ((0 : Int), List.replicate (Int.toNat (IntKind.wrap .i64 (IntKind.wrap .i64 (IntKind.wrap .i64 (bHY R + IntKind.wrap .i64 (ro * k)) - IntKind.wrap .i64 (bLY R - IntKind.wrap .i64 (ro * k))) + (1 : Int)))) [])))))) (0 : Nat)) && (rgOk (Prod.snd (Prod.snd (ciE0_g (k, IntKind.wrap .i64 (bLY R - IntKind.wrap .i64 (ro * k)), k, ro) ((0 : Int), Prod.snd (Prod.snd (rwD_g ((0 : Int), IntKind.wrap .i64 (bLY R - IntKind.wrap .i64 (ro * k)), R, (↑(List.length R) : Int), R, ro) ((0 : Int), List.replicate (Int.toNat (IntKind.wrap .i64 (IntKind.wrap .i64 (IntKind.wrap .i64 (bHY R + IntKind.wrap .i64 (ro * k)) - IntKind.wrap .i64 (bLY R - IntKind.wrap .i64 (ro * k))) + (1 : Int)))) []))))))) (IntKind.wrap .i64 (IntKind.wrap .i64 (bLY R - IntKind.wrap .i64 (ro * k)) + k))))))))))) (.ret (.ag [.d false false (.prod (.int .i64) (.list (.prod (.int .i64) (.int .i64)))) (bif !boxB R then rgN (fun i => List.getD (Prod.snd (Prod.snd (ciE0_g (k, (0 : Int), k, ro) ((0 : Int), [])))) i []) (IntKind.wrap .i64 ((0 : Int) + k)) (List.length (Prod.snd (Prod.snd (ciE0_g (k, (0 : Int), k, ro) ((0 : Int), []))))) else rgN (fun i => List.getD (Prod.snd (Prod.snd (ciE0_g (k, IntKind.wrap .i64 (bLY R - IntKind.wrap .i64 (ro * k)), k, ro) ((0 : Int), Prod.snd (Prod.snd (rwD_g ((0 : Int), IntKind.wrap .i64 (bLY R - IntKind.wrap .i64 (ro * k)), R, (↑(List.length R) : Int), R, ro) ((0 : Int), List.replicate (Int.toNat (IntKind.wrap .i64 (IntKind.wrap .i64 (IntKind.wrap .i64 (bHY R + IntKind.wrap .i64 (ro * k)) - IntKind.wrap .i64 (bLY R - IntKind.wrap .i64 (ro * k))) + (1 : Int)))) []))))))) i []) (IntKind.wrap .i64 (IntKind.wrap .i64 (bLY R - IntKind.wrap .i64 (ro * k)) + k)) (List.length (Prod.snd (Prod.snd (ciE0_g (k, IntKind.wrap .i64 (bLY R - IntKind.wrap .i64 (ro * k)), k, ro) ((0 : Int), Prod.snd (Prod.snd (rwD_g ((0 : Int), IntKind.wrap .i64 (bLY R - IntKind.wrap .i64 (ro * k)), R, (↑(List.length R) : Int), R, ro) ((0 : Int), List.replicate (Int.toNat (IntKind.wrap .i64 (IntKind.wrap .i64 (IntKind.wrap .i64 (bHY R + IntKind.wrap .i64 (ro * k)) - IntKind.wrap .i64 (bLY R - IntKind.wrap .i64 (ro * k))) + (1 : Int)))) [])))))))))])) (.bad 116)
set_option maxRecDepth 100000 in
theorem crEc_tree (ro : Int) (R : (Ty.list (.prod (.int .i64) (.list (.prod (.int .i64) (.int .i64))))).den) (k : Int) : evalF Try.prog moF_S53 (opens [72]) moF_L55 9 67 [.ag [.fn 78 [], .fn 66 [], .v false (.int .i64 ro)], .ag [.d false false (.prod (.int .i64) (.list (.prod (.int .i64) (.int .i64)))) R], .one (.v false (.int .i64 k))] = crEc_t ro R k := by kernel_rfl
theorem crEc_val (ro : Int) (R : (Ty.list (.prod (.int .i64) (.list (.prod (.int .i64) (.int .i64))))).den) (k : Int) (hc : (sqOk false R k ro) = true) : (crEc_t ro R k).val = some (.ag [.d false false (.prod (.int .i64) (.list (.prod (.int .i64) (.int .i64)))) (dmG false R k)]) := by
  obtain ⟨K, rfl⟩ : ∃ K : Rg, K = R := ⟨R, rfl⟩
  obtain ⟨h, k0, k1, hf, hro⟩ := sqOk_iff.1 hc
  simp only [cond_true, cond_false] at hro
  obtain ⟨k, rfl⟩ : ∃ j : Nat, k = (j : Int) := ⟨k.toNat, by omega⟩
  have hs := val_sz h
  unfold dmG
  unfold crEc_t
  show cond _ _ _ = _
  by_cases hp : 0 < K.length
  · have bb : boxB K = true := by unfold boxB; rw [valGB_t h, decide_eq_true hp]; rfl
    have e2 : bLY K = loY K := by unfold bLY; rw [bb]; rfl
    have e4 : bHY K = hiY K := by unfold bHY; rw [bb]; rfl
    obtain ⟨b1, _, _, ⟨x1, b4⟩, ⟨x2, b5⟩⟩ := box_ok h hp
    have m4 := mem_in h b4
    have m5 := mem_in h b5
    have a4 := b1 _ _ b4
    obtain ⟨rk, hrk⟩ : ∃ z, z = (bif false then 2 * (k : Int) else 0) := ⟨_, rfl⟩
    have rk0 : 0 ≤ rk ∧ rk ≤ 128 := by simp only [cond_true, cond_false] at hrk; omega
    have erk : ro * (k : Int) = rk := by simp only [cond_true, cond_false] at hrk; rw [hro]; omega
    have w1 : IntKind.wrap .i64 rk = rk := wid (by omega) (by omega)
    have w2 : IntKind.wrap .i64 (loY K - rk) = loY K - rk := wid (by omega) (by omega)
    have w3 : IntKind.wrap .i64 (hiY K + rk) = hiY K + rk := wid (by omega) (by omega)
    obtain ⟨N, hN⟩ : ∃ N : Nat, (N : Int) = hiY K + rk - (loY K - rk) + 1 := ⟨(hiY K + rk - (loY K - rk) + 1).toNat, by omega⟩
    have w4 : IntKind.wrap .i64 (IntKind.wrap .i64 (hiY K + rk - (loY K - rk)) + (1 : Int)) = (N : Int) := by rw [wid (x := hiY K + rk - (loY K - rk)) (by omega) (by omega), wid (by omega) (by omega)]; omega
    have w5 : IntKind.wrap .i64 (loY K - rk + (k : Int)) = loY K - rk + (k : Int) := wid (by omega) (by omega)
    have hb : ∀ r ∈ K, loY K - rk ≤ r.1 ∧ r.1 < loY K - rk + (N : Int) := fun r hr => by
      obtain ⟨x, hx⟩ := rowOk_some (Ng.rows h r hr)
      have := b1 _ _ (memG_row h hr hx)
      omega
    obtain ⟨v1, v2⟩ := rwD_run (ro := ro) h (show N ≤ 20000 by omega) hb (by omega)
    obtain ⟨u1, u2, u3⟩ := ciE0_run (a := (k : Int)) (b := loY K - rk) (ro := ro) h (show N ≤ 20000 by omega) (show k ≤ 64 by omega) (cn_zero false h (loY K - rk) N)
    obtain ⟨z1, z2, _⟩ := dm_main false h hp (show k ≤ 64 by omega) hf hrk rfl hN u3
    have o2 : rgOk (ciE0_g ((k : Int), loY K - rk, (k : Int), ro) (0, tab N fun i => rowY K (loY K - rk + (i : Int)))).2.2 (loY K - rk + (k : Int)) = true := by
      unfold rgOk
      rw [decide_eq_true z1, decide_eq_true (show -100000 ≤ loY K - rk + (k : Int) by omega), decide_eq_true (show loY K - rk + (k : Int) ≤ 100000 by omega)]; rfl
    have c1 : decide ((0 : Int) ≤ (N : Int)) = true := decide_eq_true (by omega)
    have c2 : decide ((N : Int) ≤ (N : Int)) = true := decide_eq_true (Int.le_refl _)
    have c3 : decide (((24 : Nat) : Int) * (N : Int) ≤ (281474976710656 : Int)) = true := decide_eq_true (by omega)
    have c4 : decide ((N : Int) ≤ (9223372036854775807 : Int)) = true := decide_eq_true (by omega)
    simp only [hs, bb, e2, e4, erk, w1, w2, w3, w4, w5, Int.toNat_natCast, c1, c2, c3, c4, v1, v2, u1, u2, o2, z2, Nat.beq, Bool.not_true, Bool.and_self, cond_true, cond_false, Tr.val]
  · have bb : boxB K = false := by unfold boxB; rw [decide_eq_false hp, Bool.and_false]
    have e : K = [] := List.length_eq_zero_iff.1 (by omega)
    subst e
    rw [dm_none false (by omega)]
    have cn : Cn false [] 0 0 0 [] := ⟨rfl, fun i hi => absurd hi (Nat.not_lt_zero _), fun i hi => absurd hi (Nat.not_lt_zero _)⟩
    obtain ⟨u1, u2, u3⟩ := ciE0_run (a := (k : Int)) (b := 0) (ro := ro) h (show 0 ≤ 20000 by omega) (show k ≤ 64 by omega) cn
    have el : (ciE0_g ((k : Int), 0, (k : Int), ro) (0, [])).2.2 = [] := List.length_eq_zero_iff.1 (by rw [u3.len]; omega)
    have w5 : IntKind.wrap .i64 ((0 : Int) + (k : Int)) = (k : Int) := by rw [wid (by omega) (by omega)]; omega
    have o2 : rgOk [] (k : Int) = true := by
      unfold rgOk
      rw [decide_eq_true (show -100000 ≤ (k : Int) by omega), decide_eq_true (show (k : Int) ≤ 100000 by omega)]; rfl
    simp only [hs, bb, w5, u1, u2, el, o2, Nat.beq, Bool.not_false, Bool.and_self, cond_true, cond_false, Tr.val]
    rfl
noncomputable def crEc_g : List AV → Option (Tr AV)
  | [.ag [.fn 78 [], .fn 66 [], .v _ (.int .i64 ro)], .ag [.d _ _ (.prod (.int .i64) (.list (.prod (.int .i64) (.int .i64)))) R], .one (.v _ (.int .i64 k))] => some (.br (sqOk false R k ro) (.ret (.ag [.d false false (.prod (.int .i64) (.list (.prod (.int .i64) (.int .i64)))) (dmG false R k)])) (.bad 900))
  | _ => none
set_option maxHeartbeats 4000000 in
theorem crEc_ok : FunOK Try.prog 67 crEc_g := by
  refine fun_ok (by kernel_rfl) (moF_S53_ok) (moF_L55_ok) 9 (On := (opens [72])) (fun args t h => ?_)
  unfold crEc_g at h
  split at h
  · rename_i _ ro _ _ R _ k
    simp only [Option.some.injEq] at h
    subst h
    refine ⟨[.ag [.fn 78 [], .fn 66 [], .v false (.int .i64 ro)], .ag [.d false false (.prod (.int .i64) (.list (.prod (.int .i64) (.int .i64)))) R], .one (.v false (.int .i64 k))], rfl, fun fr w us h => h, fun r hr => ?_⟩
    obtain ⟨hc, hr⟩ := br_bad hr
    simp only [Tr.val, Option.some.injEq] at hr
    subst hr
    rw [crEc_tree]
    exact crEc_val ro R k hc
  · cases h
noncomputable def moF_S56 : Sums := addS 67 crEc_g moF_S53
theorem moF_S56_ok : SumOK Try.prog moF_S56 := addS_ok (crEc_ok) (moF_S53_ok)
noncomputable def dcG (R : Rg) (k : Int) : Rg := bif rchB k && valGB R && fitB R k then dmG true R k else []
noncomputable def ecG (R : Rg) (k : Int) : Rg := bif rchB k && valGB R then dmG false R k else []
set_option maxRecDepth 100000 in
theorem dcc_tree (R : (Ty.list (.prod (.int .i64) (.list (.prod (.int .i64) (.int .i64))))).den) (k : Int) : evalF Try.prog moF_S56 (opens [72]) moF_L55 9 34 [.ag [.d false false (.prod (.int .i64) (.list (.prod (.int .i64) (.int .i64)))) R], .one (.v false (.int .i64 k))] = .br (((szG R) && (bif chkE R k != (0 : Int) then true else (sqOk true R k (2 : Int))))) (.ret (.tup [(true, [.d false false (.prod (.int .i64) (.list (.prod (.int .i64) (.int .i64)))) (bif chkE R k != (0 : Int) then [] else dmG true R k)]), (false, [.v false (.int .i64 (bif chkE R k != (0 : Int) then chkE R k else (0 : Int)))])])) (.bad 116) := by kernel_rfl
theorem dcc_val (R : (Ty.list (.prod (.int .i64) (.list (.prod (.int .i64) (.int .i64))))).den) (k : Int) (hc : (szG R) = true) : (.br (((szG R) && (bif chkE R k != (0 : Int) then true else (sqOk true R k (2 : Int))))) (.ret (.tup [(true, [.d false false (.prod (.int .i64) (.list (.prod (.int .i64) (.int .i64)))) (bif chkE R k != (0 : Int) then [] else dmG true R k)]), (false, [.v false (.int .i64 (bif chkE R k != (0 : Int) then chkE R k else (0 : Int)))])])) (.bad 116) : Tr AV).val = some (.tup [(true, [.d false false (.prod (.int .i64) (.list (.prod (.int .i64) (.int .i64)))) (dcG R k)]), (false, [.v false (.int .i64 (chkE R k))])]) := by
  obtain ⟨K, rfl⟩ : ∃ K : Rg, K = R := ⟨R, rfl⟩
  have hs : szG K = true := hc
  unfold dcG chkE
  show cond _ _ _ = _
  cases hr : rchB k
  · simp only [hs, Bool.false_and, cond_false, bne_self_eq_false, Bool.and_self, cond_true]
    rfl
  · cases hv : valGB K
    · simp only [hs, Bool.false_and, Bool.and_false, Bool.and_self, cond_false, cond_true]
      rfl
    · cases hf : fitB K k
      · simp only [hs, Bool.false_and, Bool.and_false, Bool.and_self, cond_false, cond_true]
        rfl
      · have o1 : sqOk true K k 2 = true := sqOk_iff.2 ⟨valGB_iff.1 hv, (rch_iff.1 hr).1, (rch_iff.1 hr).2, fun _ => fitB_iff.1 hf, rfl⟩
        simp only [hs, o1, Bool.and_self, cond_true, bne_self_eq_false, cond_false, Tr.val]
noncomputable def dcc_g : List AV → Option (Tr AV)
  | [.ag [.d _ _ (.prod (.int .i64) (.list (.prod (.int .i64) (.int .i64)))) R], .one (.v _ (.int .i64 k))] => some (.br (szG R) (.ret (.tup [(true, [.d false false (.prod (.int .i64) (.list (.prod (.int .i64) (.int .i64)))) (dcG R k)]), (false, [.v false (.int .i64 (chkE R k))])])) (.bad 900))
  | _ => none
set_option maxHeartbeats 4000000 in
theorem dcc_ok : FunOK Try.prog 34 dcc_g := by
  refine fun_ok (by kernel_rfl) (moF_S56_ok) (moF_L55_ok) 9 (On := (opens [72])) (fun args t h => ?_)
  unfold dcc_g at h
  split at h
  · rename_i _ _ R _ k
    simp only [Option.some.injEq] at h
    subst h
    refine ⟨[.ag [.d false false (.prod (.int .i64) (.list (.prod (.int .i64) (.int .i64)))) R], .one (.v false (.int .i64 k))], rfl, fun fr w us h => h, fun r hr => ?_⟩
    obtain ⟨hc, hr⟩ := br_bad hr
    simp only [Tr.val, Option.some.injEq] at hr
    subst hr
    rw [dcc_tree]
    exact dcc_val R k hc
  · cases h
noncomputable def moF_S57 : Sums := addS 34 dcc_g moF_S56
theorem moF_S57_ok : SumOK Try.prog moF_S57 := addS_ok (dcc_ok) (moF_S56_ok)
set_option maxRecDepth 100000 in
theorem ecc_tree (R : (Ty.list (.prod (.int .i64) (.list (.prod (.int .i64) (.int .i64))))).den) (k : Int) : evalF Try.prog moF_S57 (opens [72]) moF_L55 9 36 [.ag [.d false false (.prod (.int .i64) (.list (.prod (.int .i64) (.int .i64)))) R], .one (.v false (.int .i64 k))] = .br ((bif !bif decide (k ≥ (0 : Int)) then decide (k ≤ (64 : Int)) else false then true else ((szG R) && (bif !valGB R then true else (sqOk false R k (0 : Int)))))) (.ret (.ag [.d false false (.prod (.int .i64) (.list (.prod (.int .i64) (.int .i64)))) (bif !bif decide (k ≥ (0 : Int)) then decide (k ≤ (64 : Int)) else false then [] else bif !valGB R then [] else dmG false R k)])) (.bad 116) := by kernel_rfl
theorem ecc_val (R : (Ty.list (.prod (.int .i64) (.list (.prod (.int .i64) (.int .i64))))).den) (k : Int) (hc : (szG R) = true) : (.br ((bif !bif decide (k ≥ (0 : Int)) then decide (k ≤ (64 : Int)) else false then true else ((szG R) && (bif !valGB R then true else (sqOk false R k (0 : Int)))))) (.ret (.ag [.d false false (.prod (.int .i64) (.list (.prod (.int .i64) (.int .i64)))) (bif !bif decide (k ≥ (0 : Int)) then decide (k ≤ (64 : Int)) else false then [] else bif !valGB R then [] else dmG false R k)])) (.bad 116) : Tr AV).val = some (.ag [.d false false (.prod (.int .i64) (.list (.prod (.int .i64) (.int .i64)))) (ecG R k)]) := by
  obtain ⟨K, rfl⟩ : ∃ K : Rg, K = R := ⟨R, rfl⟩
  have hs : szG K = true := hc
  have er : (bif decide (k ≥ (0 : Int)) then decide (k ≤ (64 : Int)) else false) = rchB k := by
    unfold rchB
    show (bif decide (0 ≤ k) then decide (k ≤ 64) else false) = _
    cases decide (0 ≤ k) <;> rfl
  unfold ecG
  show cond _ _ _ = _
  rw [er]
  cases hr : rchB k
  · simp only [Bool.not_false, Bool.false_and, cond_true, cond_false, Tr.val]
  · cases hv : valGB K
    · simp only [hs, Bool.not_false, Bool.not_true, Bool.and_self, Bool.and_false, cond_true, cond_false, Tr.val]
    · have o1 : sqOk false K k 0 = true := sqOk_iff.2 ⟨valGB_iff.1 hv, (rch_iff.1 hr).1, (rch_iff.1 hr).2, (fun h => by cases h), rfl⟩
      simp only [hs, o1, Bool.not_true, Bool.and_self, cond_true, cond_false, Tr.val]
noncomputable def ecc_g : List AV → Option (Tr AV)
  | [.ag [.d _ _ (.prod (.int .i64) (.list (.prod (.int .i64) (.int .i64)))) R], .one (.v _ (.int .i64 k))] => some (.br (szG R) (.ret (.ag [.d false false (.prod (.int .i64) (.list (.prod (.int .i64) (.int .i64)))) (ecG R k)])) (.bad 900))
  | _ => none
set_option maxHeartbeats 4000000 in
theorem ecc_ok : FunOK Try.prog 36 ecc_g := by
  refine fun_ok (by kernel_rfl) (moF_S57_ok) (moF_L55_ok) 9 (On := (opens [72])) (fun args t h => ?_)
  unfold ecc_g at h
  split at h
  · rename_i _ _ R _ k
    simp only [Option.some.injEq] at h
    subst h
    refine ⟨[.ag [.d false false (.prod (.int .i64) (.list (.prod (.int .i64) (.int .i64)))) R], .one (.v false (.int .i64 k))], rfl, fun fr w us h => h, fun r hr => ?_⟩
    obtain ⟨hc, hr⟩ := br_bad hr
    simp only [Tr.val, Option.some.injEq] at hr
    subst hr
    rw [ecc_tree]
    exact ecc_val R k hc
  · cases h
noncomputable def moF_S58 : Sums := addS 36 ecc_g moF_S57
theorem moF_S58_ok : SumOK Try.prog moF_S58 := addS_ok (ecc_ok) (moF_S57_ok)
end Go.Proofs.Ytdoodmapmhibhaa
