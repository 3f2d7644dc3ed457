/-
  Layer 20: offsets by squares.
-/
import Derived.Test.YtacgchandefjgaaProg
import Derived.Test.YtacgchandefjgaaFvX
import Derived.Test.YtacgchandefjgaaFvZ
import Derived.Test.YtacgchandefjgaaAut
import Derived.Test.YtacgchandefjgaaRd
import Derived.Test.YtacgchandefjgaaPl
import Derived.Test.YtacgchandefjgaaScn
import Derived.Test.YtacgchandefjgaaMor
import Derived.Test.YtacgchandefjgaaRgB
import Derived.Test.YtacgchandefjgaaRgC
import Derived.Test.YtacgchandefjgaaRgD
import Derived.Test.YtacgchandefjgaaMoB
import Derived.Test.YtacgchandefjgaaMoC
namespace Go.Proofs.Ytacgchandefjgaa
open Go
abbrev rwD_U : Type := Int × Int × (Ty.list (.prod (.int .i64) (.list (.prod (.int .i64) (.int .i64))))).den × Int × (Ty.list (.prod (.int .i64) (.list (.prod (.int .i64) (.int .i64))))).den × Int
noncomputable def rwD_St (u : rwD_U) (v : wiD1_V) : Stt := ⟨[.one .junk, .one .junk, .one .junk, .one .junk, .one .junk, .one .junk, .one (.v false (Value.slice none (0 : Nat) (0 : Nat))), .one (.v false (.int .i64 u.1)), .one .junk, .one .junk, .one .junk, .one (.v false (.int .i64 u.2.1)), .one (.s false 7035 0 (none)), .one .junk, .one .junk, .one .junk, .one .junk, .one .junk, .one .junk, .one .junk, .one .junk, .one .junk, .one .junk, .one .junk, .one .junk, .one .junk, .one .junk, .one .junk, .one .junk, .one .junk, .one .junk, .one .junk, .one .junk, .one .junk, .one .junk, .one .junk, .one .junk, .one .junk, .one .junk, .one .junk, .one .junk, .one .junk, .one (.d false false (.prod (.int .i64) (.list (.prod (.int .i64) (.int .i64)))) u.2.2.1), .one (.v false (.int .i64 u.2.2.2.1)), .one (.v false (.int .i64 v.1)), .one .junk, .one .junk, .one .junk, .one .junk, .one .junk, .one .junk, .one .junk, .one .junk, .one .junk, .one .junk, .one .junk, .one .junk, .one .junk, .one .junk, .one .junk], [(7035, .row true false false 54 (.list (.prod (.int .i64) (.int .i64))) v.2), (7011, .dead), (7010, .dead), (7001, .dead), (7000, .dead), (2, .cells [.v false (Value.slice none (0 : Nat) (0 : Nat))]), (1, .cells [.d false false (.prod (.int .i64) (.list (.prod (.int .i64) (.int .i64)))) u.2.2.2.2.1]), (0, .cells [.fn 79 [], .fn 80 [], .v false (.int .i64 u.2.2.2.2.2)])], 8041⟩
noncomputable def rwD_step (u : rwD_U) (v : wiD1_V) : Tr (wiD1_V ⊕ (Nat × wiD1_V)) :=
  match u, v with
  | (_, q1, q2, q3, _, _), (q4, q5) => .br (decide (q4 < q3)) (.br (decide ((0 : Int) ≤ q4) && decide (q4 < (↑(List.length q2) : Int))) (.br (decide (List.length (Prod.snd (el_ilii q2 q4)) * (16 : Nat) ≤ maxNew) && decide (List.length (Prod.snd (el_ilii q2 q4)) ≤ maxLen)) (.br (decide ((0 : Int) ≤ IntKind.wrap .i64 (Prod.fst (el_ilii q2 q4) - q1)) && decide (IntKind.wrap .i64 (Prod.fst (el_ilii q2 q4) - q1) < (↑(List.length q5) : Int))) (.br (decide (Int.toNat (IntKind.wrap .i64 (Prod.fst (el_ilii q2 q4) - q1)) < List.length q5)) (.ret (.inl (IntKind.wrap .i64 (q4 + (1 : Int)), List.set q5 (Int.toNat (IntKind.wrap .i64 (Prod.fst (el_ilii q2 q4) - q1))) (Prod.snd (el_ilii q2 q4))))) (.bad 19)) (.bad 31)) (.bad 74)) (.bad 29)) (.ret (.inr (0, (q4, q5))))
set_option maxRecDepth 100000 in
set_option maxHeartbeats 4000000 in
theorem rwD_step_eq : ∀ (u : rwD_U) (v : wiD1_V), (evalC Try.prog (evalB Try.prog moC_S60 (opens [81]) moC_L59 7).1 (evalB Try.prog moC_S60 (opens [81]) moC_L59 7).2 (opens [81]) (moC_L59 81) 100000 (0 :: [0, 1, 0, 1, 1, 1, 1, 1]) (loopOf (bodyOf Try.prog 81) [1, 1, 1, 1, 1, 0, 1, 0]) (rwD_St u v) []).bind (finF [0, 1, 2, 3, 4, 5, 8, 9, 10, 13, 14, 15, 16, 17, 18, 19, 20, 21, 22, 23, 24, 25, 26, 27, 28, 29, 30, 31, 32, 33, 34, 35, 36, 37, 38, 39, 40, 41, 45, 46, 47, 48, 49, 50, 51, 52, 53, 54, 55, 56, 57, 58, 59] [] [7035, 7011, 7010, 7001, 7000, 2, 1, 0] [7011, 7010, 7001, 7000] 8041) = (rwD_step u v).bind (outA (rwD_St u) [.exit 0]) := by
  rintro ⟨q0, q1, q2, q3, q6, q7⟩ ⟨q4, q5⟩
  kernel_rfl
noncomputable def rwD_rd (b : Bool) (o6 : Option AV) (o7 : Option AV) (o11 : Option AV) (o12 : Option AV) (o42 : Option AV) (o43 : Option AV) (o44 : Option AV) (own : Own) : Option (rwD_U × wiD1_V) := zrT b <| zrO o6 fun za1 => zrA1 za1 fun zc2 => zrNil zc2 <| zrO o7 fun za3 => zrA1 za3 fun zc4 => zrI .i64 zc4 fun q0 => zrO o11 fun za5 => zrA1 za5 fun zc6 => zrI .i64 zc6 fun q1 => zrO o12 fun za7 => zrA1 za7 fun zc8 => zrSl 7035 0 (none) zc8 <| zrO o42 fun za9 => zrA1 za9 fun zc10 => zrD (.prod (.int .i64) (.list (.prod (.int .i64) (.int .i64)))) zc10 fun q2 => zrO o43 fun za11 => zrA1 za11 fun zc12 => zrI .i64 zc12 fun q3 => zrO o44 fun za13 => zrA1 za13 fun zc14 => zrI .i64 zc14 fun q4 => zrL own fun zq15 zw16 => zrKey 7035 zq15 fun zk17 => zrR true 54 (.list (.prod (.int .i64) (.int .i64))) zk17 fun q5 => zrL zw16 fun zq18 zw19 => zrKey 7011 zq18 fun zk20 => zrX zk20 <| zrL zw19 fun zq21 zw22 => zrKey 7010 zq21 fun zk23 => zrX zk23 <| zrL zw22 fun zq24 zw25 => zrKey 7001 zq24 fun zk26 => zrX zk26 <| zrL zw25 fun zq27 zw28 => zrKey 7000 zq27 fun zk29 => zrX zk29 <| zrL zw28 fun zq30 zw31 => zrKey 2 zq30 fun zk32 => zrC zk32 fun zl33 => zrL zl33 fun zc34 zr35 => zrNil zc34 <| zrN zr35 <| zrL zw31 fun zq36 zw37 => zrKey 1 zq36 fun zk38 => zrC zk38 fun zl39 => zrL zl39 fun zc40 zr41 => zrD (.prod (.int .i64) (.list (.prod (.int .i64) (.int .i64)))) zc40 fun q6 => zrN zr41 <| zrL zw37 fun zq42 zw43 => zrKey 0 zq42 fun zk44 => zrC zk44 fun zl45 => zrL zl45 fun zc46 zr47 => zrF 79 [] zc46 <| zrL zr47 fun zc48 zr49 => zrF 80 [] zc48 <| zrL zr49 fun zc50 zr51 => zrI .i64 zc50 fun q7 => zrN zr51 <| zrN zw43 <| some ((q0, q1, q2, q3, q6, q7), (q4, q5))
noncomputable def rwD_can (st : Stt) : Stt := canA [0, 1, 2, 3, 4, 5, 8, 9, 10, 13, 14, 15, 16, 17, 18, 19, 20, 21, 22, 23, 24, 25, 26, 27, 28, 29, 30, 31, 32, 33, 34, 35, 36, 37, 38, 39, 40, 41, 45, 46, 47, 48, 49, 50, 51, 52, 53, 54, 55, 56, 57, 58, 59] [] [7035, 7011, 7010, 7001, 7000, 2, 1, 0] [7011, 7010, 7001, 7000] 8041 st
noncomputable def rwD_cok (st : Stt) : Bool := canAok [0, 1, 2, 3, 4, 5, 8, 9, 10, 13, 14, 15, 16, 17, 18, 19, 20, 21, 22, 23, 24, 25, 26, 27, 28, 29, 30, 31, 32, 33, 34, 35, 36, 37, 38, 39, 40, 41, 45, 46, 47, 48, 49, 50, 51, 52, 53, 54, 55, 56, 57, 58, 59] [] [7035, 7011, 7010, 7001, 7000, 2, 1, 0] [7011, 7010, 7001, 7000] 8041 st
noncomputable def rwD_read (st : Stt) : Option (rwD_U × wiD1_V) := rwD_rd (rwD_cok st && (staysA [] [7035, 7011, 7010, 7001, 7000, 2, 1, 0] st.own && juAll [0, 1, 2, 3, 4, 5, 8, 9, 10, 13, 14, 15, 16, 17, 18, 19, 20, 21, 22, 23, 24, 25, 26, 27, 28, 29, 30, 31, 32, 33, 34, 35, 36, 37, 38, 39, 40, 41, 45, 46, 47, 48, 49, 50, 51, 52, 53, 54, 55, 56, 57, 58, 59] (rwD_can st).tm 60)) (rwD_can st).tm[6]? (rwD_can st).tm[7]? (rwD_can st).tm[11]? (rwD_can st).tm[12]? (rwD_can st).tm[42]? (rwD_can st).tm[43]? (rwD_can st).tm[44]? (rwD_can st).own
set_option maxRecDepth 100000 in
set_option maxHeartbeats 4000000 in
theorem rwD_rd_ok {b : Bool} {tm : List AV} {own : Own} {u : rwD_U} {v : wiD1_V} (hj : b = true → juAll [0, 1, 2, 3, 4, 5, 8, 9, 10, 13, 14, 15, 16, 17, 18, 19, 20, 21, 22, 23, 24, 25, 26, 27, 28, 29, 30, 31, 32, 33, 34, 35, 36, 37, 38, 39, 40, 41, 45, 46, 47, 48, 49, 50, 51, 52, 53, 54, 55, 56, 57, 58, 59] tm 60 = true) (h : rwD_rd b tm[6]? tm[7]? tm[11]? tm[12]? tm[42]? tm[43]? tm[44]? own = some (u, v)) : b = true ∧ tm = (rwD_St u v).tm ∧ own = (rwD_St u v).own := by
  unfold rwD_rd at h
  obtain ⟨rfl, h0⟩ := zrT_some h
  obtain ⟨za1, e6, h1⟩ := zrO_some h0
  obtain ⟨zc2, rfl, h2⟩ := zrA1_some h1
  obtain ⟨rfl, h3⟩ := zrNil_some h2
  obtain ⟨za3, e7, h4⟩ := zrO_some h3
  obtain ⟨zc4, rfl, h5⟩ := zrA1_some h4
  obtain ⟨q0, rfl, h6⟩ := zrI_some h5
  obtain ⟨za5, e11, h7⟩ := zrO_some h6
  obtain ⟨zc6, rfl, h8⟩ := zrA1_some h7
  obtain ⟨q1, rfl, h9⟩ := zrI_some h8
  obtain ⟨za7, e12, h10⟩ := zrO_some h9
  obtain ⟨zc8, rfl, h11⟩ := zrA1_some h10
  obtain ⟨rfl, h12⟩ := zrSl_some h11
  obtain ⟨za9, e42, h13⟩ := zrO_some h12
  obtain ⟨zc10, rfl, h14⟩ := zrA1_some h13
  obtain ⟨q2, rfl, h15⟩ := zrD_some h14
  obtain ⟨za11, e43, h16⟩ := zrO_some h15
  obtain ⟨zc12, rfl, h17⟩ := zrA1_some h16
  obtain ⟨q3, rfl, h18⟩ := zrI_some h17
  obtain ⟨za13, e44, h19⟩ := zrO_some h18
  obtain ⟨zc14, rfl, h20⟩ := zrA1_some h19
  obtain ⟨q4, rfl, h21⟩ := zrI_some h20
  obtain ⟨zq15, zw16, rfl, h22⟩ := zrL_some h21
  obtain ⟨zk17, rfl, h23⟩ := zrKey_some h22
  obtain ⟨q5, rfl, h24⟩ := zrR_some h23
  obtain ⟨zq18, zw19, rfl, h25⟩ := zrL_some h24
  obtain ⟨zk20, rfl, h26⟩ := zrKey_some h25
  obtain ⟨rfl, h27⟩ := zrX_some h26
  obtain ⟨zq21, zw22, rfl, h28⟩ := zrL_some h27
  obtain ⟨zk23, rfl, h29⟩ := zrKey_some h28
  obtain ⟨rfl, h30⟩ := zrX_some h29
  obtain ⟨zq24, zw25, rfl, h31⟩ := zrL_some h30
  obtain ⟨zk26, rfl, h32⟩ := zrKey_some h31
  obtain ⟨rfl, h33⟩ := zrX_some h32
  obtain ⟨zq27, zw28, rfl, h34⟩ := zrL_some h33
  obtain ⟨zk29, rfl, h35⟩ := zrKey_some h34
  obtain ⟨rfl, h36⟩ := zrX_some h35
  obtain ⟨zq30, zw31, rfl, h37⟩ := zrL_some h36
  obtain ⟨zk32, rfl, h38⟩ := zrKey_some h37
  obtain ⟨zl33, rfl, h39⟩ := zrC_some h38
  obtain ⟨zc34, zr35, rfl, h40⟩ := zrL_some h39
  obtain ⟨rfl, h41⟩ := zrNil_some h40
  obtain ⟨rfl, h42⟩ := zrN_some h41
  obtain ⟨zq36, zw37, rfl, h43⟩ := zrL_some h42
  obtain ⟨zk38, rfl, h44⟩ := zrKey_some h43
  obtain ⟨zl39, rfl, h45⟩ := zrC_some h44
  obtain ⟨zc40, zr41, rfl, h46⟩ := zrL_some h45
  obtain ⟨q6, rfl, h47⟩ := zrD_some h46
  obtain ⟨rfl, h48⟩ := zrN_some h47
  obtain ⟨zq42, zw43, rfl, h49⟩ := zrL_some h48
  obtain ⟨zk44, rfl, h50⟩ := zrKey_some h49
  obtain ⟨zl45, rfl, h51⟩ := zrC_some h50
  obtain ⟨zc46, zr47, rfl, h52⟩ := zrL_some h51
  obtain ⟨rfl, h53⟩ := zrF_some h52
  obtain ⟨zc48, zr49, rfl, h54⟩ := zrL_some h53
  obtain ⟨rfl, h55⟩ := zrF_some h54
  obtain ⟨zc50, zr51, rfl, h56⟩ := zrL_some h55
  obtain ⟨q7, rfl, h57⟩ := zrI_some h56
  obtain ⟨rfl, h58⟩ := zrN_some h57
  obtain ⟨rfl, h59⟩ := zrN_some h58
  have h := Option.some.inj h59
  have hu := congrArg Prod.fst h
  have hv := congrArg Prod.snd h
  dsimp only at hu hv
  subst hu
  subst hv
  exact ⟨rfl, (tm_fill (hj rfl) (Lv := [(6, .one (.v false (Value.slice none (0 : Nat) (0 : Nat)))), (7, .one (.v false (.int .i64 q0))), (11, .one (.v false (.int .i64 q1))), (12, .one (.s false 7035 0 (none))), (42, .one (.d false false (.prod (.int .i64) (.list (.prod (.int .i64) (.int .i64)))) q2)), (43, .one (.v false (.int .i64 q3))), (44, .one (.v false (.int .i64 q4)))]) (by kernel_rfl) ⟨e6, e7, e11, e12, e42, e43, e44, trivial⟩).trans (by kernel_rfl), rfl⟩
theorem rwD_read_ok (st : Stt) (u : rwD_U) (v : wiD1_V) (h : rwD_read st = some (u, v)) : rwD_cok st = true ∧ staysA [] [7035, 7011, 7010, 7001, 7000, 2, 1, 0] st.own = true ∧ rwD_can st = rwD_St u v := by
  obtain ⟨h1, h2, h3⟩ := rwD_rd_ok (fun hb => by rw [Bool.and_eq_true, Bool.and_eq_true] at hb; exact hb.2.2) h
  rw [Bool.and_eq_true, Bool.and_eq_true] at h1
  refine ⟨h1.1, h1.2.1, ?_⟩
  have e : rwD_can st = ⟨(rwD_can st).tm, (rwD_can st).own, 8041⟩ := by kernel_rfl
  rw [e, h2, h3]
  rfl
noncomputable def rwD_cond (u : rwD_U) (v : wiD1_V) : Bool := runC (rwD_step u) v
noncomputable def rwD_g (u : rwD_U) (v : wiD1_V) : Nat × wiD1_V := runG (rwD_step u) v
theorem rwD_hg : ∀ (u : rwD_U) (v : wiD1_V), rwD_cond u v = true → loopN (rwD_step u) ((fun u v => runF (rwD_step u) v) u v) v = some (rwD_g u v) := by
  exact fun u v h => run_hg h
noncomputable def rwD_m (st : Stt) : Option (Tr (Ex × Stt)) := sumM rwD_read rwD_cond rwD_St rwD_g [(0, .exit 0)] st
noncomputable def moD_L51 : FuncId → Loops := addL 81 [0, 1, 0, 1, 1, 1, 1, 1] rwD_m moC_L59
set_option maxRecDepth 100000 in
set_option maxHeartbeats 4000000 in
theorem moD_L51_ok : LoopsOK Try.prog moD_L51 :=
  loop_sumF (body := (bodyOf Try.prog 81)) (c := (loopOf (bodyOf Try.prog 81) [1, 1, 1, 1, 1, 0, 1, 0])) (kinds := [.exit 0]) (allow := [(0, .exit 0)]) (St := rwD_St) (step := rwD_step) (W := [0, 1, 2, 3, 4, 5, 8, 9, 10, 13, 14, 15, 16, 17, 18, 19, 20, 21, 22, 23, 24, 25, 26, 27, 28, 29, 30, 31, 32, 33, 34, 35, 36, 37, 38, 39, 40, 41, 45, 46, 47, 48, 49, 50, 51, 52, 53, 54, 55, 56, 57, 58, 59]) (As := []) (ks := [7035, 7011, 7010, 7001, 7000, 2, 1, 0]) (dd := [7011, 7010, 7001, 7000]) (nx := 8041) (n := 100000) (g := rwD_g) (cond := rwD_cond) (fuel := (fun u v => runF (rwD_step u) v)) (read := rwD_read) (by kernel_rfl) (moC_S60_ok) (moC_L59_ok) 7 ⟨Try.f81, by kernel_rfl, by kernel_rfl⟩ (by kernel_rfl) (by kernel_rfl) (by kernel_rfl) rwD_step_eq rwD_hg rwD_read_ok
theorem rwD_run {R : Rg} {F ro : Int} {N : Nat} (h : valG R) (hN : N ≤ 20000) (hb : ∀ r ∈ R, F ≤ r.1 ∧ r.1 < F + (N : Int)) (hF : -100000 ≤ F ∧ F ≤ 100000) : rwD_cond (0, F, R, (R.length : Int), R, ro) (0, List.replicate N []) = true ∧ rwD_g (0, F, R, (R.length : Int), R, ro) (0, List.replicate N []) = (0, ((R.length : Int), tab N fun i => rowY R (F + (i : Int)))) := by
  have R1 := run_steps (step := rwD_step (0, F, R, (R.length : Int), R, ro)) (St := fun j => ((j : Int), tab N fun i => rowY (R.take j) (F + (i : Int)))) (n := R.length) (t := (0, ((R.length : Int), tab N fun i => rowY R (F + (i : Int))))) (by
    simp only [rwD_step, Tr.val, Int.lt_irrefl, decide_false, cond_false, List.take_length]) R.length 0 (Nat.zero_add _) (fun j _ hj => by
    have hr := hb _ (List.getElem_mem hj)
    have hl := row_len (Ng.rows h _ (List.getElem_mem hj))
    obtain ⟨r1, r2⟩ := room16 (n := R[j].2.length) (by omega)
    have w1 : IntKind.wrap .i64 (R[j].1 - F) = (((R[j].1 - F).toNat : Nat) : Int) := by rw [wid (by omega) (by omega)]; omega
    have c1 : decide ((((R[j].1 - F).toNat : Nat) : Int) < (N : Int)) = true := decide_eq_true (by omega)
    have c2 : decide ((R[j].1 - F).toNat < N) = true := decide_eq_true (by omega)
    have et : (tab N fun i => if i = (R[j].1 - F).toNat then R[j].2 else rowY (R.take j) (F + (i : Int))) = tab N fun i => rowY (R.take (j + 1)) (F + (i : Int)) := tab_congr fun i hi => by
      rw [rowY_take hj]
      by_cases g : i = (R[j].1 - F).toNat
      · rw [if_pos g, if_pos (by omega)]
      · rw [if_neg g, if_neg (by omega)]
    simp only [rwD_step, Tr.val, lt_t hj, nn_t, el_g hj, r1, r2, w1, c1, c2, tab_length, tab_set, et, Int.toNat_natCast, wi1 hj (show (R.length : Int) ≤ 9223372036854775806 by have := ng_len h (by omega); omega), Bool.and_self, cond_true])
  have e0 : (tab N fun i => rowY (R.take 0) (F + (i : Int))) = List.replicate N [] := (tab_rep N ([] : Rl)).symm
  simp only [e0] at R1
  exact R1
abbrev sqD_U : Type := Int × Int × Int × Int
noncomputable def sqD_St (u : sqD_U) (v : wiD1_V) : Stt := ⟨[.one .junk, .one .junk, .one (.v false (.int .i64 u.1)), .one (.p 0 0), .one .junk, .one .junk, .one (.p 2 0), .one (.s false 7035 0 (none)), .one (.v false (.int .i64 u.2.1)), .one .junk, .one .junk, .one .junk, .one .junk, .one .junk, .one .junk, .one .junk, .one .junk, .one .junk, .one (.v false (.int .i64 u.2.2.1)), .one (.v false (.int .i64 v.1)), .one .junk, .one .junk, .one .junk, .one .junk, .one .junk, .one .junk, .one .junk, .one .junk, .one .junk, .one .junk, .one .junk, .one .junk, .one .junk, .one .junk, .one .junk, .one .junk, .one .junk, .one .junk, .one .junk, .one .junk, .one .junk, .one .junk, .one .junk, .one .junk], [(7035, .row true false false 54 (.list (.prod (.int .i64) (.int .i64))) v.2), (7011, .dead), (7010, .dead), (7001, .dead), (7000, .dead), (2, .cells [.v false (Value.slice none (0 : Nat) (0 : Nat))]), (1, .dead), (0, .cells [.fn 79 [], .fn 80 [], .v false (.int .i64 u.2.2.2)])], 1015⟩
noncomputable def sqD_step (u : sqD_U) (v : wiD1_V) : Tr (wiD1_V ⊕ (Nat × wiD1_V)) :=
  match u, v with
  | (q0, _, q2, _), (q3, q4) => .br (decide (q3 < q2)) (.br (decide ((0 : Int) ≤ q3) && decide (q3 < (↑(List.length q4) : Int))) (.br (decide (Int.toNat q3 < List.length q4)) (.br (grOk (el_lii q4 q3) q0) (.br (decide ((0 : Int) ≤ q3) && decide (q3 < (↑(List.length q4) : Int))) (.br (decide (Int.toNat q3 < List.length q4)) (.ret (.inl (IntKind.wrap .i64 (q3 + (1 : Int)), List.set q4 (Int.toNat q3) (wdR true (el_lii q4 q3) q0)))) (.bad 19)) (.bad 31)) (.bad 900)) (.bad 12)) (.bad 31)) (.ret (.inr (0, (q3, q4))))
set_option maxRecDepth 100000 in
set_option maxHeartbeats 4000000 in
theorem sqD_step_eq : ∀ (u : sqD_U) (v : wiD1_V), (evalC Try.prog (evalB Try.prog moC_S60 (opens [81]) moD_L51 7).1 (evalB Try.prog moC_S60 (opens [81]) moD_L51 7).2 (opens [81]) (moD_L51 47) 100000 (0 :: [0, 1, 0, 1, 1]) (loopOf (bodyOf Try.prog 47) [1, 1, 0, 1, 0]) (sqD_St u v) []).bind (finF [0, 1, 4, 5, 9, 10, 11, 12, 13, 14, 15, 16, 17, 20, 21, 22, 23, 24, 25, 26, 27, 28, 29, 30, 31, 32, 33, 34, 35, 36, 37, 38, 39, 40, 41, 42, 43] [] [7035, 7011, 7010, 7001, 7000, 2, 1, 0] [7011, 7010, 7001, 7000, 1] 1015) = (sqD_step u v).bind (outA (sqD_St u) [.exit 0]) := by
  rintro ⟨q0, q1, q2, q5⟩ ⟨q3, q4⟩
  kernel_rfl
noncomputable def sqD_rd (b : Bool) (o2 : Option AV) (o3 : Option AV) (o6 : Option AV) (o7 : Option AV) (o8 : Option AV) (o18 : Option AV) (o19 : Option AV) (own : Own) : Option (sqD_U × wiD1_V) := zrT b <| zrO o2 fun za1 => zrA1 za1 fun zc2 => zrI .i64 zc2 fun q0 => zrO o3 fun za3 => zrA1 za3 fun zc4 => zrP 0 0 zc4 <| zrO o6 fun za5 => zrA1 za5 fun zc6 => zrP 2 0 zc6 <| zrO o7 fun za7 => zrA1 za7 fun zc8 => zrSl 7035 0 (none) zc8 <| zrO o8 fun za9 => zrA1 za9 fun zc10 => zrI .i64 zc10 fun q1 => zrO o18 fun za11 => zrA1 za11 fun zc12 => zrI .i64 zc12 fun q2 => zrO o19 fun za13 => zrA1 za13 fun zc14 => zrI .i64 zc14 fun q3 => zrL own fun zq15 zw16 => zrKey 7035 zq15 fun zk17 => zrR true 54 (.list (.prod (.int .i64) (.int .i64))) zk17 fun q4 => zrL zw16 fun zq18 zw19 => zrKey 7011 zq18 fun zk20 => zrX zk20 <| zrL zw19 fun zq21 zw22 => zrKey 7010 zq21 fun zk23 => zrX zk23 <| zrL zw22 fun zq24 zw25 => zrKey 7001 zq24 fun zk26 => zrX zk26 <| zrL zw25 fun zq27 zw28 => zrKey 7000 zq27 fun zk29 => zrX zk29 <| zrL zw28 fun zq30 zw31 => zrKey 2 zq30 fun zk32 => zrC zk32 fun zl33 => zrL zl33 fun zc34 zr35 => zrNil zc34 <| zrN zr35 <| zrL zw31 fun zq36 zw37 => zrKey 1 zq36 fun zk38 => zrX zk38 <| zrL zw37 fun zq39 zw40 => zrKey 0 zq39 fun zk41 => zrC zk41 fun zl42 => zrL zl42 fun zc43 zr44 => zrF 79 [] zc43 <| zrL zr44 fun zc45 zr46 => zrF 80 [] zc45 <| zrL zr46 fun zc47 zr48 => zrI .i64 zc47 fun q5 => zrN zr48 <| zrN zw40 <| some ((q0, q1, q2, q5), (q3, q4))
noncomputable def sqD_can (st : Stt) : Stt := canA [0, 1, 4, 5, 9, 10, 11, 12, 13, 14, 15, 16, 17, 20, 21, 22, 23, 24, 25, 26, 27, 28, 29, 30, 31, 32, 33, 34, 35, 36, 37, 38, 39, 40, 41, 42, 43] [] [7035, 7011, 7010, 7001, 7000, 2, 1, 0] [7011, 7010, 7001, 7000, 1] 1015 st
noncomputable def sqD_cok (st : Stt) : Bool := canAok [0, 1, 4, 5, 9, 10, 11, 12, 13, 14, 15, 16, 17, 20, 21, 22, 23, 24, 25, 26, 27, 28, 29, 30, 31, 32, 33, 34, 35, 36, 37, 38, 39, 40, 41, 42, 43] [] [7035, 7011, 7010, 7001, 7000, 2, 1, 0] [7011, 7010, 7001, 7000, 1] 1015 st
noncomputable def sqD_read (st : Stt) : Option (sqD_U × wiD1_V) := sqD_rd (sqD_cok st && (staysA [] [7035, 7011, 7010, 7001, 7000, 2, 1, 0] st.own && juAll [0, 1, 4, 5, 9, 10, 11, 12, 13, 14, 15, 16, 17, 20, 21, 22, 23, 24, 25, 26, 27, 28, 29, 30, 31, 32, 33, 34, 35, 36, 37, 38, 39, 40, 41, 42, 43] (sqD_can st).tm 44)) (sqD_can st).tm[2]? (sqD_can st).tm[3]? (sqD_can st).tm[6]? (sqD_can st).tm[7]? (sqD_can st).tm[8]? (sqD_can st).tm[18]? (sqD_can st).tm[19]? (sqD_can st).own
set_option maxRecDepth 100000 in
set_option maxHeartbeats 4000000 in
theorem sqD_rd_ok {b : Bool} {tm : List AV} {own : Own} {u : sqD_U} {v : wiD1_V} (hj : b = true → juAll [0, 1, 4, 5, 9, 10, 11, 12, 13, 14, 15, 16, 17, 20, 21, 22, 23, 24, 25, 26, 27, 28, 29, 30, 31, 32, 33, 34, 35, 36, 37, 38, 39, 40, 41, 42, 43] tm 44 = true) (h : sqD_rd b tm[2]? tm[3]? tm[6]? tm[7]? tm[8]? tm[18]? tm[19]? own = some (u, v)) : b = true ∧ tm = (sqD_St u v).tm ∧ own = (sqD_St u v).own := by
  unfold sqD_rd at h
  obtain ⟨rfl, h0⟩ := zrT_some h
  obtain ⟨za1, e2, h1⟩ := zrO_some h0
  obtain ⟨zc2, rfl, h2⟩ := zrA1_some h1
  obtain ⟨q0, rfl, h3⟩ := zrI_some h2
  obtain ⟨za3, e3, h4⟩ := zrO_some h3
  obtain ⟨zc4, rfl, h5⟩ := zrA1_some h4
  obtain ⟨rfl, h6⟩ := zrP_some h5
  obtain ⟨za5, e6, h7⟩ := zrO_some h6
  obtain ⟨zc6, rfl, h8⟩ := zrA1_some h7
  obtain ⟨rfl, h9⟩ := zrP_some h8
  obtain ⟨za7, e7, h10⟩ := zrO_some h9
  obtain ⟨zc8, rfl, h11⟩ := zrA1_some h10
  obtain ⟨rfl, h12⟩ := zrSl_some h11
  obtain ⟨za9, e8, h13⟩ := zrO_some h12
  obtain ⟨zc10, rfl, h14⟩ := zrA1_some h13
  obtain ⟨q1, rfl, h15⟩ := zrI_some h14
  obtain ⟨za11, e18, h16⟩ := zrO_some h15
  obtain ⟨zc12, rfl, h17⟩ := zrA1_some h16
  obtain ⟨q2, rfl, h18⟩ := zrI_some h17
  obtain ⟨za13, e19, h19⟩ := zrO_some h18
  obtain ⟨zc14, rfl, h20⟩ := zrA1_some h19
  obtain ⟨q3, rfl, h21⟩ := zrI_some h20
  obtain ⟨zq15, zw16, rfl, h22⟩ := zrL_some h21
  obtain ⟨zk17, rfl, h23⟩ := zrKey_some h22
  obtain ⟨q4, rfl, h24⟩ := zrR_some h23
  obtain ⟨zq18, zw19, rfl, h25⟩ := zrL_some h24
  obtain ⟨zk20, rfl, h26⟩ := zrKey_some h25
  obtain ⟨rfl, h27⟩ := zrX_some h26
  obtain ⟨zq21, zw22, rfl, h28⟩ := zrL_some h27
  obtain ⟨zk23, rfl, h29⟩ := zrKey_some h28
  obtain ⟨rfl, h30⟩ := zrX_some h29
  obtain ⟨zq24, zw25, rfl, h31⟩ := zrL_some h30
  obtain ⟨zk26, rfl, h32⟩ := zrKey_some h31
  obtain ⟨rfl, h33⟩ := zrX_some h32
  obtain ⟨zq27, zw28, rfl, h34⟩ := zrL_some h33
  obtain ⟨zk29, rfl, h35⟩ := zrKey_some h34
  obtain ⟨rfl, h36⟩ := zrX_some h35
  obtain ⟨zq30, zw31, rfl, h37⟩ := zrL_some h36
  obtain ⟨zk32, rfl, h38⟩ := zrKey_some h37
  obtain ⟨zl33, rfl, h39⟩ := zrC_some h38
  obtain ⟨zc34, zr35, rfl, h40⟩ := zrL_some h39
  obtain ⟨rfl, h41⟩ := zrNil_some h40
  obtain ⟨rfl, h42⟩ := zrN_some h41
  obtain ⟨zq36, zw37, rfl, h43⟩ := zrL_some h42
  obtain ⟨zk38, rfl, h44⟩ := zrKey_some h43
  obtain ⟨rfl, h45⟩ := zrX_some h44
  obtain ⟨zq39, zw40, rfl, h46⟩ := zrL_some h45
  obtain ⟨zk41, rfl, h47⟩ := zrKey_some h46
  obtain ⟨zl42, rfl, h48⟩ := zrC_some h47
  obtain ⟨zc43, zr44, rfl, h49⟩ := zrL_some h48
  obtain ⟨rfl, h50⟩ := zrF_some h49
  obtain ⟨zc45, zr46, rfl, h51⟩ := zrL_some h50
  obtain ⟨rfl, h52⟩ := zrF_some h51
  obtain ⟨zc47, zr48, rfl, h53⟩ := zrL_some h52
  obtain ⟨q5, rfl, h54⟩ := zrI_some h53
  obtain ⟨rfl, h55⟩ := zrN_some h54
  obtain ⟨rfl, h56⟩ := zrN_some h55
  have h := Option.some.inj h56
  have hu := congrArg Prod.fst h
  have hv := congrArg Prod.snd h
  dsimp only at hu hv
  subst hu
  subst hv
  exact ⟨rfl, (tm_fill (hj rfl) (Lv := [(2, .one (.v false (.int .i64 q0))), (3, .one (.p 0 0)), (6, .one (.p 2 0)), (7, .one (.s false 7035 0 (none))), (8, .one (.v false (.int .i64 q1))), (18, .one (.v false (.int .i64 q2))), (19, .one (.v false (.int .i64 q3)))]) (by kernel_rfl) ⟨e2, e3, e6, e7, e8, e18, e19, trivial⟩).trans (by kernel_rfl), rfl⟩
theorem sqD_read_ok (st : Stt) (u : sqD_U) (v : wiD1_V) (h : sqD_read st = some (u, v)) : sqD_cok st = true ∧ staysA [] [7035, 7011, 7010, 7001, 7000, 2, 1, 0] st.own = true ∧ sqD_can st = sqD_St u v := by
  obtain ⟨h1, h2, h3⟩ := sqD_rd_ok (fun hb => by rw [Bool.and_eq_true, Bool.and_eq_true] at hb; exact hb.2.2) h
  rw [Bool.and_eq_true, Bool.and_eq_true] at h1
  refine ⟨h1.1, h1.2.1, ?_⟩
  have e : sqD_can st = ⟨(sqD_can st).tm, (sqD_can st).own, 1015⟩ := by kernel_rfl
  rw [e, h2, h3]
  rfl
noncomputable def sqD_cond (u : sqD_U) (v : wiD1_V) : Bool := runC (sqD_step u) v
noncomputable def sqD_g (u : sqD_U) (v : wiD1_V) : Nat × wiD1_V := runG (sqD_step u) v
theorem sqD_hg : ∀ (u : sqD_U) (v : wiD1_V), sqD_cond u v = true → loopN (sqD_step u) ((fun u v => runF (sqD_step u) v) u v) v = some (sqD_g u v) := by
  exact fun u v h => run_hg h
noncomputable def sqD_m (st : Stt) : Option (Tr (Ex × Stt)) := sumM sqD_read sqD_cond sqD_St sqD_g [(0, .exit 0)] st
noncomputable def moD_L52 : FuncId → Loops := addL 47 [0, 1, 0, 1, 1] sqD_m moD_L51
set_option maxRecDepth 100000 in
set_option maxHeartbeats 4000000 in
theorem moD_L52_ok : LoopsOK Try.prog moD_L52 :=
  loop_sumF (body := (bodyOf Try.prog 47)) (c := (loopOf (bodyOf Try.prog 47) [1, 1, 0, 1, 0])) (kinds := [.exit 0]) (allow := [(0, .exit 0)]) (St := sqD_St) (step := sqD_step) (W := [0, 1, 4, 5, 9, 10, 11, 12, 13, 14, 15, 16, 17, 20, 21, 22, 23, 24, 25, 26, 27, 28, 29, 30, 31, 32, 33, 34, 35, 36, 37, 38, 39, 40, 41, 42, 43]) (As := []) (ks := [7035, 7011, 7010, 7001, 7000, 2, 1, 0]) (dd := [7011, 7010, 7001, 7000, 1]) (nx := 1015) (n := 100000) (g := sqD_g) (cond := sqD_cond) (fuel := (fun u v => runF (sqD_step u) v)) (read := sqD_read) (by kernel_rfl) (moC_S60_ok) (moD_L51_ok) 7 ⟨Try.f47, by kernel_rfl, by kernel_rfl⟩ (by kernel_rfl) (by kernel_rfl) (by kernel_rfl) sqD_step_eq sqD_hg sqD_read_ok
theorem sqD_run {k F ro : Int} {N : Nat} {g : Nat → Rl} (hN : N ≤ 20000) (hg : ∀ i, i < N → grOk (g i) k = true) : sqD_cond (k, F, (N : Int), ro) (0, tab N g) = true ∧ sqD_g (k, F, (N : Int), ro) (0, tab N g) = (0, ((N : Int), tab N fun i => wdR true (g i) k)) := by
  have R1 := run_steps (step := sqD_step (k, F, (N : Int), ro)) (St := fun j => ((j : Int), tab N fun i => if i < j then wdR true (g i) k else g i)) (n := N) (t := (0, ((N : Int), tab N fun i => wdR true (g i) k))) (by
    have e : (tab N fun i => if i < N then wdR true (g i) k else g i) = tab N fun i => wdR true (g i) k := tab_congr fun i hi => by rw [if_pos hi]
    simp only [sqD_step, Tr.val, Int.lt_irrefl, decide_false, cond_false, e]) N 0 (Nat.zero_add _) (fun j _ hj => by
    have eg : (tab N fun i => if i < j then wdR true (g i) k else g i).getD j [] = g j := by rw [tab_getD _ hj, if_neg (Nat.lt_irrefl _)]
    have et : (tab N fun i => if i = j then wdR true (g j) k else if i < j then wdR true (g i) k else g i) = tab N fun i => if i < j + 1 then wdR true (g i) k else g i := tab_congr fun i hi => by
      by_cases h : i = j
      · subst h; rw [if_pos rfl, if_pos (by omega)]
      · rw [if_neg h]
        by_cases h2 : i < j
        · rw [if_pos h2, if_pos (by omega)]
        · rw [if_neg h2, if_neg (by omega)]
    simp only [sqD_step, Tr.val, lt_t hj, nn_t, el_w, eg, hg j hj, tab_length, decide_eq_true hj, tab_set, et, Int.toNat_natCast, wi1 hj (show (N : Int) ≤ 9223372036854775806 by omega), Bool.and_self, cond_true])
  have e0 : (tab N fun i => if i < 0 then wdR true (g i) k else g i) = tab N g := tab_congr fun i _ => by rw [if_neg (Nat.not_lt_zero _)]
  simp only [e0] at R1
  exact R1
noncomputable def sqDc_t (ro : Int) (R : (Ty.list (.prod (.int .i64) (.list (.prod (.int .i64) (.int .i64))))).den) (k : Int) : Tr AV := .br (((szG R) && (bif !boxB R then ((wiOk [] (IntKind.wrap .i64 (IntKind.wrap .i64 ((2 : Int) * k) + (1 : Int)))) && (rgOk (wnV true [] (IntKind.wrap .i64 (IntKind.wrap .i64 ((2 : Int) * k) + (1 : Int)))) (IntKind.wrap .i64 ((0 : Int) + k)))) else ((decide ((0 : Int) ≤ IntKind.wrap .i64 (IntKind.wrap .i64 (IntKind.wrap .i64 (bHY R + IntKind.wrap .i64 (ro * k)) - IntKind.wrap .i64 (bLY R - IntKind.wrap .i64 (ro * k))) + (1 : Int))) && decide (IntKind.wrap .i64 (IntKind.wrap .i64 (IntKind.wrap .i64 (bHY R + IntKind.wrap .i64 (ro * k)) - IntKind.wrap .i64 (bLY R - IntKind.wrap .i64 (ro * k))) + (1 : Int)) ≤ IntKind.wrap .i64 (IntKind.wrap .i64 (IntKind.wrap .i64 (bHY R + IntKind.wrap .i64 (ro * k)) - IntKind.wrap .i64 (bLY R - IntKind.wrap .i64 (ro * k))) + (1 : Int))) && decide ((↑(24 : Nat) : Int) * IntKind.wrap .i64 (IntKind.wrap .i64 (IntKind.wrap .i64 (bHY R + IntKind.wrap .i64 (ro * k)) - IntKind.wrap .i64 (bLY R - IntKind.wrap .i64 (ro * k))) + (1 : Int)) ≤ (281474976710656 : Int)) && decide (IntKind.wrap .i64 (IntKind.wrap .i64 (IntKind.wrap .i64 (bHY R + IntKind.wrap .i64 (ro * k)) - IntKind.wrap .i64 (bLY R - IntKind.wrap .i64 (ro * k))) + (1 : Int)) ≤ (9223372036854775807 : Int))) && ((rwD_cond ((0 : Int), IntKind.wrap .i64 (bLY R - IntKind.wrap .i64 (ro * k)), R, (↑(List.length R) : Int), R, ro) ((0 : Int), List.replicate (Int.toNat (IntKind.wrap .i64 (IntKind.wrap .i64 (IntKind.wrap .i64 (bHY R + IntKind.wrap .i64 (ro * k)) - IntKind.wrap .i64 (bLY R - IntKind.wrap .i64 (ro * k))) + (1 : Int)))) [])) && ((Nat.beq (Prod.fst (rwD_g ((0 : Int), IntKind.wrap .i64 (bLY R - IntKind.wrap .i64 (ro * k)), R, (↑(List.length R) : Int), R, ro) ((0 : Int), List.replicate (Int.toNat (IntKind.wrap .i64 (IntKind.wrap .i64 (IntKind.wrap .i64 (bHY R + IntKind.wrap .i64 (ro * k)) - IntKind.wrap .i64 (bLY R - IntKind.wrap .i64 (ro * k))) + (1 : Int)))) []))) (0 : Nat)) && ((sqD_cond (k, IntKind.wrap .i64 (bLY R - IntKind.wrap .i64 (ro * k)), (↑(List.length (Prod.snd (Prod.snd (rwD_g ((0 : Int), IntKind.wrap .i64 (bLY R - IntKind.wrap .i64 (ro * k)), R, (↑(List.length R) : Int), R, ro) ((0 : Int), List.replicate (Int.toNat (IntKind.wrap .i64 (IntKind.wrap .i64 (IntKind.wrap .i64 (bHY R + IntKind.wrap .i64 (ro * k)) - IntKind.wrap .i64 (bLY R - IntKind.wrap .i64 (ro * k))) + (1 : Int)))) []))))) : Int), ro) ((0 : Int), Prod.snd (Prod.snd (rwD_g ((0 : Int), IntKind.wrap .i64 (bLY R - IntKind.wrap .i64 (ro * k)), R, (↑(List.length R) : Int), R, ro) ((0 : Int), List.replicate (Int.toNat (IntKind.wrap .i64 (IntKind.wrap .i64 (IntKind.wrap .i64 (bHY R + IntKind.wrap .i64 (ro * k)) - IntKind.wrap .i64 (bLY R - IntKind.wrap .i64 (ro * k))) + (1 : Int)))) []))))) && ((Nat.beq (Prod.fst (sqD_g (k, IntKind.wrap .i64 (bLY R - IntKind.wrap .i64 (ro * k)), (↑(List.length (Prod.snd (Prod.snd (rwD_g ((0 : Int), IntKind.wrap .i64 (bLY R - IntKind.wrap .i64 (ro * k)), R, (↑(List.length R) : Int), R, ro) ((0 : Int), List.replicate (Int.toNat (IntKind.wrap .i64 (IntKind.wrap .i64 (IntKind.wrap .i64 (bHY R + IntKind.wrap .i64 (ro * k)) - IntKind.wrap .i64 (bLY R - IntKind.wrap .i64 (ro * k))) + (1 : Int)))) []))))) : Int), ro) ((0 : Int), Prod.snd (Prod.snd (rwD_g ((0 : Int), IntKind.wrap .i64 (bLY R - IntKind.wrap .i64 (ro * k)), R, (↑(List.length R) : Int), R, ro) ((0 : Int), List.replicate (Int.toNat (IntKind.wrap .i64 (IntKind.wrap .i64 (IntKind.wrap .i64 (bHY R + IntKind.wrap .i64 (ro * k)) - IntKind.wrap .i64 (bLY R - IntKind.wrap .i64 (ro * k))) + (1 : Int)))) [])))))) (0 : Nat)) && ((wiOk (Prod.snd (Prod.snd (sqD_g (k, IntKind.wrap .i64 (bLY R - IntKind.wrap .i64 (ro * k)), (↑(List.length (Prod.snd (Prod.snd (rwD_g ((0 : Int), IntKind.wrap .i64 (bLY R - IntKind.wrap .i64 (ro * k)), R, (↑(List.length R) : Int), R, ro) ((0 : Int), List.replicate (Int.toNat (IntKind.wrap .i64 (IntKind.wrap .i64 (IntKind.wrap .i64 (bHY R + IntKind.wrap .i64 (ro * k)) - IntKind.wrap .i64 (bLY R - IntKind.wrap .i64 (ro * k))) + (1 : Int)))) []))))) : Int), ro) ((0 : Int), Prod.snd (Prod.snd (rwD_g ((0 : Int), IntKind.wrap .i64 (bLY R - IntKind.wrap .i64 (ro * k)), R, (↑(List.length R) : Int), R, ro) ((0 : Int), List.replicate (Int.toNat (IntKind.wrap .i64 (IntKind.wrap .i64 (IntKind.wrap .i64 (bHY R + IntKind.wrap .i64 (ro * k)) - IntKind.wrap .i64 (bLY R - IntKind.wrap .i64 (ro * k))) + (1 : Int)))) []))))))) (IntKind.wrap .i64 (IntKind.wrap .i64 ((2 : Int) * k) + (1 : Int)))) && (rgOk (wnV true (Prod.snd (Prod.snd (sqD_g (k, IntKind.wrap .i64 (bLY R - IntKind.wrap .i64 (ro * k)), (↑(List.length (Prod.snd (Prod.snd (rwD_g ((0 : Int), IntKind.wrap .i64 (bLY R - IntKind.wrap .i64 (ro * k)), R, (↑(List.length R) : Int), R, ro) ((0 : Int), List.replicate (Int.toNat (IntKind.wrap .i64 (IntKind.wrap .i64 (IntKind.wrap .i64 (bHY R + IntKind.wrap .i64 (ro * k)) - IntKind.wrap .i64 (bLY R - IntKind.wrap .i64 (ro * k))) + (1 : Int)))) []))))) : Int), ro) ((0 : Int), Prod.snd (Prod.snd (rwD_g ((0 : Int), IntKind.wrap .i64 (bLY R - IntKind.wrap .i64 (ro * k)), R, (↑(List.length R) : Int), R, ro) ((0 : Int), List.replicate (Int.toNat (IntKind.wrap .i64 (IntKind.wrap .i64 (IntKind.wrap .i64 (bHY R + IntKind.wrap .i64 (ro * k)) - IntKind.wrap .i64 (bLY R - IntKind.wrap .i64 (ro * k))) + (1 : Int)))) []))))))) (IntKind.wrap .i64 (IntKind.wrap .i64 ((2 : Int) * k) + (1 : Int)))) (IntKind.wrap .i64 (IntKind.wrap .i64 (bLY R - IntKind.wrap .i64 (ro * k)) + k)))))))))))) (.ret (.ag [.d false false (.prod (.int .i64) (.list (.prod (.int .i64) (.int .i64)))) (bif !boxB R then rgN (fun i => List.getD (wnV true [] (IntKind.wrap .i64 (IntKind.wrap .i64 ((2 : Int) * k) + (1 : Int)))) i []) (IntKind.wrap .i64 ((0 : Int) + k)) (List.length (wnV true [] (IntKind.wrap .i64 (IntKind.wrap .i64 ((2 : Int) * k) + (1 : Int))))) else rgN (fun i => List.getD (wnV true (Prod.snd (Prod.snd (sqD_g (k, IntKind.wrap .i64 (bLY R - IntKind.wrap .i64 (ro * k)), (↑(List.length (Prod.snd (Prod.snd (rwD_g ((0 : Int), IntKind.wrap .i64 (bLY R - IntKind.wrap .i64 (ro * k)), R, (↑(List.length R) : Int), R, ro) ((0 : Int), List.replicate (Int.toNat (IntKind.wrap .i64 (IntKind.wrap .i64 (IntKind.wrap .i64 (bHY R + IntKind.wrap .i64 (ro * k)) - IntKind.wrap .i64 (bLY R - IntKind.wrap .i64 (ro * k))) + (1 : Int)))) []))))) : Int), ro) ((0 : Int), Prod.snd (Prod.snd (rwD_g ((0 : Int), IntKind.wrap .i64 (bLY R - IntKind.wrap .i64 (ro * k)), R, (↑(List.length R) : Int), R, ro) ((0 : Int), List.replicate (Int.toNat (IntKind.wrap .i64 (IntKind.wrap .i64 (IntKind.wrap .i64 (bHY R + IntKind.wrap .i64 (ro * k)) - IntKind.wrap .i64 (bLY R - IntKind.wrap .i64 (ro * k))) + (1 : Int)))) []))))))) (IntKind.wrap .i64 (IntKind.wrap .i64 ((2 : Int) * k) + (1 : Int)))) i []) (IntKind.wrap .i64 (IntKind.wrap .i64 (bLY R - IntKind.wrap .i64 (ro * k)) + k)) (List.length (wnV true (Prod.snd (Prod.snd (sqD_g (k, IntKind.wrap .i64 (bLY R - IntKind.wrap .i64 (ro * k)), (↑(List.length (Prod.snd (Prod.snd (rwD_g ((0 : Int), IntKind.wrap .i64 (bLY R - IntKind.wrap .i64 (ro * k)), R, (↑(List.length R) : Int), R, ro) ((0 : Int), List.replicate (Int.toNat (IntKind.wrap .i64 (IntKind.wrap .i64 (IntKind.wrap .i64 (bHY R + IntKind.wrap .i64 (ro * k)) - IntKind.wrap .i64 (bLY R - IntKind.wrap .i64 (ro * k))) + (1 : Int)))) []))))) : Int), ro) ((0 : Int), Prod.snd (Prod.snd (rwD_g ((0 : Int), IntKind.wrap .i64 (bLY R - IntKind.wrap .i64 (ro * k)), R, (↑(List.length R) : Int), R, ro) ((0 : Int), List.replicate (Int.toNat (IntKind.wrap .i64 (IntKind.wrap .i64 (IntKind.wrap .i64 (bHY R + IntKind.wrap .i64 (ro * k)) - IntKind.wrap .i64 (bLY R - IntKind.wrap .i64 (ro * k))) + (1 : Int)))) []))))))) (IntKind.wrap .i64 (IntKind.wrap .i64 ((2 : Int) * k) + (1 : Int))))))])) (.bad 116)
set_option maxRecDepth 100000 in
theorem sqDc_tree (ro : Int) (R : (Ty.list (.prod (.int .i64) (.list (.prod (.int .i64) (.int .i64))))).den) (k : Int) : evalF Try.prog moC_S60 (opens [81]) moD_L52 9 47 [.ag [.fn 79 [], .fn 80 [], .v false (.int .i64 ro)], .ag [.d false false (.prod (.int .i64) (.list (.prod (.int .i64) (.int .i64)))) R], .one (.v false (.int .i64 k))] = sqDc_t ro R k := by kernel_rfl
theorem sqDc_val (ro : Int) (R : (Ty.list (.prod (.int .i64) (.list (.prod (.int .i64) (.int .i64))))).den) (k : Int) (hc : (sqOk true R k ro) = true) : (sqDc_t ro R k).val = some (.ag [.d false false (.prod (.int .i64) (.list (.prod (.int .i64) (.int .i64)))) (sqG true R k)]) := by
  obtain ⟨K, rfl⟩ : ∃ K : Rg, K = R := ⟨R, rfl⟩
  obtain ⟨h, k0, k1, hf, hro⟩ := sqOk_iff.1 hc
  simp only [cond_true, cond_false] at hro
  obtain ⟨k, rfl⟩ : ∃ j : Nat, k = (j : Int) := ⟨k.toNat, by omega⟩
  have hs := val_sz h
  have wk1 : IntKind.wrap .i64 (IntKind.wrap .i64 ((2 : Int) * (k : Int)) + (1 : Int)) = ((2 * k + 1 : Nat) : Int) := by rw [wid (x := 2 * (k : Int)) (by omega) (by omega), wid (by omega) (by omega)]; omega
  unfold sqG
  unfold sqDc_t
  show cond _ _ _ = _
  by_cases hp : 0 < K.length
  · have bb : boxB K = true := by unfold boxB; rw [valGB_t h, decide_eq_true hp]; rfl
    have e2 : bLY K = loY K := by unfold bLY; rw [bb]; rfl
    have e4 : bHY K = hiY K := by unfold bHY; rw [bb]; rfl
    obtain ⟨b1, _, _, ⟨x1, b4⟩, ⟨x2, b5⟩⟩ := box_ok h hp
    have m4 := mem_in h b4
    have m5 := mem_in h b5
    have a4 := b1 _ _ b4
    obtain ⟨rk, hrk⟩ : ∃ z, z = (bif true then 2 * (k : Int) else 0) := ⟨_, rfl⟩
    have rk0 : 0 ≤ rk ∧ rk ≤ 128 := by simp only [cond_true, cond_false] at hrk; omega
    have erk : ro * (k : Int) = rk := by simp only [cond_true, cond_false] at hrk; rw [hro]; omega
    have w1 : IntKind.wrap .i64 rk = rk := wid (by omega) (by omega)
    have w2 : IntKind.wrap .i64 (loY K - rk) = loY K - rk := wid (by omega) (by omega)
    have w3 : IntKind.wrap .i64 (hiY K + rk) = hiY K + rk := wid (by omega) (by omega)
    obtain ⟨N, hN⟩ : ∃ N : Nat, (N : Int) = hiY K + rk - (loY K - rk) + 1 := ⟨(hiY K + rk - (loY K - rk) + 1).toNat, by omega⟩
    have w4 : IntKind.wrap .i64 (IntKind.wrap .i64 (hiY K + rk - (loY K - rk)) + (1 : Int)) = (N : Int) := by rw [wid (x := hiY K + rk - (loY K - rk)) (by omega) (by omega), wid (by omega) (by omega)]; omega
    have w5 : IntKind.wrap .i64 (loY K - rk + (k : Int)) = loY K - rk + (k : Int) := wid (by omega) (by omega)
    have hb : ∀ r ∈ K, loY K - rk ≤ r.1 ∧ r.1 < loY K - rk + (N : Int) := fun r hr => by
      obtain ⟨x, hx⟩ := rowOk_some (Ng.rows h r hr)
      have := b1 _ _ (memG_row h hr hx)
      omega
    obtain ⟨v1, v2⟩ := rwD_run (ro := ro) h (show N ≤ 20000 by omega) hb (by omega)
    have hg : ∀ i, i < N → grOk (rowY K (loY K - rk + (i : Int))) (k : Int) = true := fun i _ => by
      obtain ⟨g1, g2, g3⟩ := rowY_ok h (loY K - rk + (i : Int))
      have := bd_len (M := 4096) g1 g3 (by omega)
      exact gr_of g1 (by omega) (by omega) (by omega) fun r hr => by have := g3 r hr; omega
    obtain ⟨u1, u2⟩ := sqD_run (F := loY K - rk) (ro := ro) (N := N) (show N ≤ 20000 by omega) hg
    obtain ⟨z1, z2, _⟩ := sq_main true h hp (show k ≤ 64 by omega) hf hrk rfl hN
    have o1 : wiOk (tab N fun i => wdR true (rowY K (loY K - rk + (i : Int))) (k : Int)) ((2 * k + 1 : Nat) : Int) = true := wiOk_iff.2 ⟨sq_rws true h (by omega) (by omega) (by omega), by omega, by omega⟩
    have o2 : rgOk (wnV true (tab N fun i => wdR true (rowY K (loY K - rk + (i : Int))) (k : Int)) ((2 * k + 1 : Nat) : Int)) (loY K - rk + (k : Int)) = true := by
      unfold rgOk
      rw [decide_eq_true z1, decide_eq_true (show -100000 ≤ loY K - rk + (k : Int) by omega), decide_eq_true (show loY K - rk + (k : Int) ≤ 100000 by omega)]; rfl
    have c1 : decide ((0 : Int) ≤ (N : Int)) = true := decide_eq_true (by omega)
    have c2 : decide ((N : Int) ≤ (N : Int)) = true := decide_eq_true (Int.le_refl _)
    have c3 : decide (((24 : Nat) : Int) * (N : Int) ≤ (281474976710656 : Int)) = true := decide_eq_true (by omega)
    have c4 : decide ((N : Int) ≤ (9223372036854775807 : Int)) = true := decide_eq_true (by omega)
    simp only [hs, bb, e2, e4, erk, w1, w2, w3, w4, w5, wk1, Int.toNat_natCast, c1, c2, c3, c4, v1, v2, u1, u2, o1, o2, z2, tab_length, Nat.beq, Bool.not_true, Bool.and_self, cond_true, cond_false, Tr.val]
  · have bb : boxB K = false := by unfold boxB; rw [decide_eq_false hp, Bool.and_false]
    have e : K = [] := List.length_eq_zero_iff.1 (by omega)
    subst e
    rw [sq_none true (by omega)]
    have hr : Rws [] := ⟨by decide, fun i => ⟨valR_nil, fun x hx => by cases hx⟩⟩
    have ew : wnV true [] ((2 * k + 1 : Nat) : Int) = [] := List.length_eq_zero_iff.1 (by rw [(wnV_ok true hr (n := 2 * k + 1) (by omega)).len]; exact Nat.zero_sub _)
    have o1 : wiOk [] ((2 * k + 1 : Nat) : Int) = true := wiOk_iff.2 ⟨hr, by omega, by omega⟩
    have w5 : IntKind.wrap .i64 ((0 : Int) + (k : Int)) = (k : Int) := by rw [wid (by omega) (by omega)]; omega
    have o2 : rgOk [] (k : Int) = true := by
      unfold rgOk
      rw [decide_eq_true (show -100000 ≤ (k : Int) by omega), decide_eq_true (show (k : Int) ≤ 100000 by omega)]; rfl
    simp only [hs, bb, wk1, ew, w5, o1, o2, Bool.not_false, Bool.and_self, cond_true, cond_false, Tr.val]
    rfl
noncomputable def sqDc_g : List AV → Option (Tr AV)
  | [.ag [.fn 79 [], .fn 80 [], .v _ (.int .i64 ro)], .ag [.d _ _ (.prod (.int .i64) (.list (.prod (.int .i64) (.int .i64)))) R], .one (.v _ (.int .i64 k))] => some (.br (sqOk true R k ro) (.ret (.ag [.d false false (.prod (.int .i64) (.list (.prod (.int .i64) (.int .i64)))) (sqG true R k)])) (.bad 900))
  | _ => none
set_option maxHeartbeats 4000000 in
theorem sqDc_ok : FunOK Try.prog 47 sqDc_g := by
  refine fun_ok (by kernel_rfl) (moC_S60_ok) (moD_L52_ok) 9 (On := (opens [81])) (fun args t h => ?_)
  unfold sqDc_g at h
  split at h
  · rename_i _ ro _ _ R _ k
    simp only [Option.some.injEq] at h
    subst h
    refine ⟨[.ag [.fn 79 [], .fn 80 [], .v false (.int .i64 ro)], .ag [.d false false (.prod (.int .i64) (.list (.prod (.int .i64) (.int .i64)))) R], .one (.v false (.int .i64 k))], rfl, fun fr w us h => h, fun r hr => ?_⟩
    obtain ⟨hc, hr⟩ := br_bad hr
    simp only [Tr.val, Option.some.injEq] at hr
    subst hr
    rw [sqDc_tree]
    exact sqDc_val ro R k hc
  · cases h
noncomputable def moD_S53 : Sums := addS 47 sqDc_g moC_S60
theorem moD_S53_ok : SumOK Try.prog moD_S53 := addS_ok (sqDc_ok) (moC_S60_ok)
noncomputable def moD_L54 : FuncId → Loops := moD_L52
set_option maxRecDepth 100000 in
set_option maxHeartbeats 4000000 in
theorem moD_L54_ok : LoopsOK Try.prog moD_L54 := moD_L52_ok
noncomputable def moD_L55 : FuncId → Loops := moD_L54
set_option maxRecDepth 100000 in
set_option maxHeartbeats 4000000 in
theorem moD_L55_ok : LoopsOK Try.prog moD_L55 := moD_L54_ok
noncomputable def moD_S56 : Sums := moD_S53
theorem moD_S56_ok : SumOK Try.prog moD_S56 := moD_S53_ok
noncomputable def dlG (R : Rg) (k : Int) : Rg := bif rchB k && valGB R && fitB R k then sqG true R k else []
theorem rch_iff {k : Int} : rchB k = true ↔ 0 ≤ k ∧ k ≤ 64 := by unfold rchB; rw [Bool.and_eq_true, decide_eq_true_eq, decide_eq_true_eq]
theorem fitB_iff {R : Rg} {k : Int} : fitB R k = true ↔ fitsG R k := by unfold fitB; simp
set_option maxRecDepth 100000 in
theorem dlc_tree (R : (Ty.list (.prod (.int .i64) (.list (.prod (.int .i64) (.int .i64))))).den) (k : Int) : evalF Try.prog moD_S56 (opens [81]) moD_L55 9 12 [.ag [.d false false (.prod (.int .i64) (.list (.prod (.int .i64) (.int .i64)))) R], .one (.v false (.int .i64 k))] = .br (((szG R) && (bif chkE R k != (0 : Int) then true else (sqOk true R k (2 : Int))))) (.ret (.tup [(true, [.d false false (.prod (.int .i64) (.list (.prod (.int .i64) (.int .i64)))) (bif chkE R k != (0 : Int) then [] else sqG true R k)]), (false, [.v false (.int .i64 (bif chkE R k != (0 : Int) then chkE R k else (0 : Int)))])])) (.bad 116) := by kernel_rfl
theorem dlc_val (R : (Ty.list (.prod (.int .i64) (.list (.prod (.int .i64) (.int .i64))))).den) (k : Int) (hc : (szG R) = true) : (.br (((szG R) && (bif chkE R k != (0 : Int) then true else (sqOk true R k (2 : Int))))) (.ret (.tup [(true, [.d false false (.prod (.int .i64) (.list (.prod (.int .i64) (.int .i64)))) (bif chkE R k != (0 : Int) then [] else sqG true R k)]), (false, [.v false (.int .i64 (bif chkE R k != (0 : Int) then chkE R k else (0 : Int)))])])) (.bad 116) : Tr AV).val = some (.tup [(true, [.d false false (.prod (.int .i64) (.list (.prod (.int .i64) (.int .i64)))) (dlG R k)]), (false, [.v false (.int .i64 (chkE R k))])]) := by
  obtain ⟨K, rfl⟩ : ∃ K : Rg, K = R := ⟨R, rfl⟩
  have hs : szG K = true := hc
  unfold dlG chkE
  show cond _ _ _ = _
  cases hr : rchB k
  · simp only [hs, Bool.false_and, cond_false, bne_self_eq_false, Bool.and_self, cond_true]
    rfl
  · cases hv : valGB K
    · simp only [hs, Bool.false_and, Bool.and_false, Bool.and_self, cond_false, cond_true]
      rfl
    · cases hf : fitB K k
      · simp only [hs, Bool.false_and, Bool.and_false, Bool.and_self, cond_false, cond_true]
        rfl
      · have o1 : sqOk true K k 2 = true := sqOk_iff.2 ⟨valGB_iff.1 hv, (rch_iff.1 hr).1, (rch_iff.1 hr).2, fun _ => fitB_iff.1 hf, rfl⟩
        simp only [hs, o1, Bool.and_self, cond_true, bne_self_eq_false, cond_false, Tr.val]
noncomputable def dlc_g : List AV → Option (Tr AV)
  | [.ag [.d _ _ (.prod (.int .i64) (.list (.prod (.int .i64) (.int .i64)))) R], .one (.v _ (.int .i64 k))] => some (.br (szG R) (.ret (.tup [(true, [.d false false (.prod (.int .i64) (.list (.prod (.int .i64) (.int .i64)))) (dlG R k)]), (false, [.v false (.int .i64 (chkE R k))])])) (.bad 900))
  | _ => none
set_option maxHeartbeats 4000000 in
theorem dlc_ok : FunOK Try.prog 12 dlc_g := by
  refine fun_ok (by kernel_rfl) (moD_S56_ok) (moD_L55_ok) 9 (On := (opens [81])) (fun args t h => ?_)
  unfold dlc_g at h
  split at h
  · rename_i _ _ R _ k
    simp only [Option.some.injEq] at h
    subst h
    refine ⟨[.ag [.d false false (.prod (.int .i64) (.list (.prod (.int .i64) (.int .i64)))) R], .one (.v false (.int .i64 k))], rfl, fun fr w us h => h, fun r hr => ?_⟩
    obtain ⟨hc, hr⟩ := br_bad hr
    simp only [Tr.val, Option.some.injEq] at hr
    subst hr
    rw [dlc_tree]
    exact dlc_val R k hc
  · cases h
noncomputable def moD_S57 : Sums := addS 12 dlc_g moD_S56
theorem moD_S57_ok : SumOK Try.prog moD_S57 := addS_ok (dlc_ok) (moD_S56_ok)
noncomputable def moD_S58 : Sums := moD_S57
theorem moD_S58_ok : SumOK Try.prog moD_S58 := moD_S57_ok
end Go.Proofs.Ytacgchandefjgaa
