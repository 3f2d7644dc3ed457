/-
  Layer 36: operations limited to a speed; the search for the speed.
-/
import Derived.Test.YtbmdbejoignenaaProg
import Derived.Test.YtbmdbejoignenaaFvX
import Derived.Test.YtbmdbejoignenaaFvZ
import Derived.Test.YtbmdbejoignenaaAut
import Derived.Test.YtbmdbejoignenaaRd
import Derived.Test.YtbmdbejoignenaaPl
import Derived.Test.YtbmdbejoignenaaScn
import Derived.Test.YtbmdbejoignenaaCoA
namespace Go.Proofs.Ytbmdbejoignenaa
open Go
abbrev lim_U : Type := Int × (Ty.list (.prod (.int .i64) (.prod (.int .i64) (.prod (.int .i64) (.prod (.int .i64) (.prod (.int .i64) (.list (.prod (.int .i64) (.int .i64))))))))).den × Int
abbrev lim_V : Type := Int × (Ty.list (.prod (.int .i64) (.prod (.int .i64) (.prod (.int .i64) (.prod (.int .i64) (.prod (.int .i64) (.list (.prod (.int .i64) (.int .i64))))))))).den
noncomputable def lim_St (u : lim_U) (v : lim_V) : Stt := ⟨[.one .junk, .one (.v false (.int .i64 u.1)), .one .junk, .one .junk, .one (.v false (Value.slice none (0 : Nat) (0 : Nat))), .one (.s false 2 0 (none)), .one .junk, .one .junk, .one .junk, .one .junk, .one (.d false false (.prod (.int .i64) (.prod (.int .i64) (.prod (.int .i64) (.prod (.int .i64) (.prod (.int .i64) (.list (.prod (.int .i64) (.int .i64)))))))) u.2.1), .one (.v false (.int .i64 u.2.2)), .one (.v false (.int .i64 v.1)), .one .junk, .one .junk, .one .junk, .one .junk, .one .junk, .one .junk, .one .junk, .one .junk, .one .junk, .one .junk, .one .junk, .one .junk, .one .junk, .one .junk, .one .junk, .one .junk, .one .junk], [(2, .row true false false 29 (.prod (.int .i64) (.prod (.int .i64) (.prod (.int .i64) (.prod (.int .i64) (.prod (.int .i64) (.list (.prod (.int .i64) (.int .i64)))))))) v.2)], 1007⟩
noncomputable def lim_step (u : lim_U) (v : lim_V) : Tr (lim_V ⊕ (Nat × lim_V)) :=
  match u, v with
  | (q0, q1, q2), (q3, q4) => .br (decide (q3 < q2)) (.br (decide ((0 : Int) ≤ q3) && decide (q3 < (↑(List.length q1) : Int))) (.br (Prod.fst (el_iiiiilii q1 q3) == (3 : Int)) (.br (decide ((0 : Int) ≤ q3) && decide (q3 < (↑(List.length q4) : Int))) (.br (decide (Int.toNat q3 < List.length q4)) (.ret (.inl (IntKind.wrap IntKind.i64 (q3 + (1 : Int)), List.set q4 (Int.toNat q3) (Prod.fst (el_iiiiilii q4 q3), Prod.fst (Prod.snd (el_iiiiilii q4 q3)), Prod.fst (Prod.snd (Prod.snd (el_iiiiilii q4 q3))), Prod.fst (Prod.snd (Prod.snd (Prod.snd (el_iiiiilii q4 q3)))), if q0 < Prod.fst (Prod.snd (Prod.snd (Prod.snd (Prod.snd (el_iiiiilii q1 q3))))) then q0 else Prod.fst (Prod.snd (Prod.snd (Prod.snd (Prod.snd (el_iiiiilii q1 q3))))), Prod.snd (Prod.snd (Prod.snd (Prod.snd (Prod.snd (el_iiiiilii q4 q3))))))))) (.bad 19)) (.bad 31)) (.ret (.inl (IntKind.wrap IntKind.i64 (q3 + (1 : Int)), q4)))) (.bad 29)) (.ret (.inr (0, (q3, q4))))
set_option maxRecDepth 100000 in
set_option maxHeartbeats 4000000 in
theorem lim_step_eq : ∀ (u : lim_U) (v : lim_V), (evalC Try.prog (evalB Try.prog coA_S58 (opens []) coA_L55 7).1 (evalB Try.prog coA_S58 (opens []) coA_L55 7).2 (opens []) (coA_L55 35) 100000 (0 :: [0, 1, 0, 1, 1]) (loopOf (bodyOf Try.prog 35) [1, 1, 0, 1, 0]) (lim_St u v) []).bind (finF [0, 2, 3, 6, 7, 8, 9, 13, 14, 15, 16, 17, 18, 19, 20, 21, 22, 23, 24, 25, 26, 27, 28, 29] [] [2] [] 1007) = (lim_step u v).bind (outA (lim_St u) [.exit 0]) := by
  rintro ⟨q0, q1, q2⟩ ⟨q3, q4⟩
  kernel_rfl
noncomputable def lim_rd (b : Bool) (o1 : Option AV) (o4 : Option AV) (o5 : Option AV) (o10 : Option AV) (o11 : Option AV) (o12 : Option AV) (own : Own) : Option (lim_U × lim_V) := zrT b <| zrO o1 fun za1 => zrA1 za1 fun zc2 => zrI .i64 zc2 fun q0 => zrO o4 fun za3 => zrA1 za3 fun zc4 => zrNil zc4 <| zrO o5 fun za5 => zrA1 za5 fun zc6 => zrSl 2 0 (none) zc6 <| zrO o10 fun za7 => zrA1 za7 fun zc8 => zrD (.prod (.int .i64) (.prod (.int .i64) (.prod (.int .i64) (.prod (.int .i64) (.prod (.int .i64) (.list (.prod (.int .i64) (.int .i64)))))))) zc8 fun q1 => zrO o11 fun za9 => zrA1 za9 fun zc10 => zrI .i64 zc10 fun q2 => zrO o12 fun za11 => zrA1 za11 fun zc12 => zrI .i64 zc12 fun q3 => zrL own fun zq13 zw14 => zrKey 2 zq13 fun zk15 => zrR true 29 (.prod (.int .i64) (.prod (.int .i64) (.prod (.int .i64) (.prod (.int .i64) (.prod (.int .i64) (.list (.prod (.int .i64) (.int .i64)))))))) zk15 fun q4 => zrN zw14 <| some ((q0, q1, q2), (q3, q4))
noncomputable def lim_can (st : Stt) : Stt := canA [0, 2, 3, 6, 7, 8, 9, 13, 14, 15, 16, 17, 18, 19, 20, 21, 22, 23, 24, 25, 26, 27, 28, 29] [] [2] [] 1007 st
noncomputable def lim_cok (st : Stt) : Bool := canAok [0, 2, 3, 6, 7, 8, 9, 13, 14, 15, 16, 17, 18, 19, 20, 21, 22, 23, 24, 25, 26, 27, 28, 29] [] [2] [] 1007 st
noncomputable def lim_read (st : Stt) : Option (lim_U × lim_V) := lim_rd (lim_cok st && (staysA [] [2] st.own && juAll [0, 2, 3, 6, 7, 8, 9, 13, 14, 15, 16, 17, 18, 19, 20, 21, 22, 23, 24, 25, 26, 27, 28, 29] (lim_can st).tm 30)) (lim_can st).tm[1]? (lim_can st).tm[4]? (lim_can st).tm[5]? (lim_can st).tm[10]? (lim_can st).tm[11]? (lim_can st).tm[12]? (lim_can st).own
set_option maxRecDepth 100000 in
set_option maxHeartbeats 4000000 in
theorem lim_rd_ok {b : Bool} {tm : List AV} {own : Own} {u : lim_U} {v : lim_V} (hj : b = true → juAll [0, 2, 3, 6, 7, 8, 9, 13, 14, 15, 16, 17, 18, 19, 20, 21, 22, 23, 24, 25, 26, 27, 28, 29] tm 30 = true) (h : lim_rd b tm[1]? tm[4]? tm[5]? tm[10]? tm[11]? tm[12]? own = some (u, v)) : b = true ∧ tm = (lim_St u v).tm ∧ own = (lim_St u v).own := by
  unfold lim_rd at h
  obtain ⟨rfl, h0⟩ := zrT_some h
  obtain ⟨za1, e1, h1⟩ := zrO_some h0
  obtain ⟨zc2, rfl, h2⟩ := zrA1_some h1
  obtain ⟨q0, rfl, h3⟩ := zrI_some h2
  obtain ⟨za3, e4, h4⟩ := zrO_some h3
  obtain ⟨zc4, rfl, h5⟩ := zrA1_some h4
  obtain ⟨rfl, h6⟩ := zrNil_some h5
  obtain ⟨za5, e5, h7⟩ := zrO_some h6
  obtain ⟨zc6, rfl, h8⟩ := zrA1_some h7
  obtain ⟨rfl, h9⟩ := zrSl_some h8
  obtain ⟨za7, e10, h10⟩ := zrO_some h9
  obtain ⟨zc8, rfl, h11⟩ := zrA1_some h10
  obtain ⟨q1, rfl, h12⟩ := zrD_some h11
  obtain ⟨za9, e11, h13⟩ := zrO_some h12
  obtain ⟨zc10, rfl, h14⟩ := zrA1_some h13
  obtain ⟨q2, rfl, h15⟩ := zrI_some h14
  obtain ⟨za11, e12, h16⟩ := zrO_some h15
  obtain ⟨zc12, rfl, h17⟩ := zrA1_some h16
  obtain ⟨q3, rfl, h18⟩ := zrI_some h17
  obtain ⟨zq13, zw14, rfl, h19⟩ := zrL_some h18
  obtain ⟨zk15, rfl, h20⟩ := zrKey_some h19
  obtain ⟨q4, rfl, h21⟩ := zrR_some h20
  obtain ⟨rfl, h22⟩ := zrN_some h21
  have h := Option.some.inj h22
  have hu := congrArg Prod.fst h
  have hv := congrArg Prod.snd h
  dsimp only at hu hv
  subst hu
  subst hv
  exact ⟨rfl, (tm_fill (hj rfl) (Lv := [(1, .one (.v false (.int .i64 q0))), (4, .one (.v false (Value.slice none (0 : Nat) (0 : Nat)))), (5, .one (.s false 2 0 (none))), (10, .one (.d false false (.prod (.int .i64) (.prod (.int .i64) (.prod (.int .i64) (.prod (.int .i64) (.prod (.int .i64) (.list (.prod (.int .i64) (.int .i64)))))))) q1)), (11, .one (.v false (.int .i64 q2))), (12, .one (.v false (.int .i64 q3)))]) (by kernel_rfl) ⟨e1, e4, e5, e10, e11, e12, trivial⟩).trans (by kernel_rfl), rfl⟩
theorem lim_read_ok (st : Stt) (u : lim_U) (v : lim_V) (h : lim_read st = some (u, v)) : lim_cok st = true ∧ staysA [] [2] st.own = true ∧ lim_can st = lim_St u v := by
  obtain ⟨h1, h2, h3⟩ := lim_rd_ok (fun hb => by rw [Bool.and_eq_true, Bool.and_eq_true] at hb; exact hb.2.2) h
  rw [Bool.and_eq_true, Bool.and_eq_true] at h1
  refine ⟨h1.1, h1.2.1, ?_⟩
  have e : lim_can st = ⟨(lim_can st).tm, (lim_can st).own, 1007⟩ := by kernel_rfl
  rw [e, h2, h3]
  rfl
noncomputable def lim_cond (u : lim_U) (v : lim_V) : Bool := runC (lim_step u) v
noncomputable def lim_g (u : lim_U) (v : lim_V) : Nat × lim_V := runG (lim_step u) v
theorem lim_hg : ∀ (u : lim_U) (v : lim_V), lim_cond u v = true → loopN (lim_step u) ((fun u v => runF (lim_step u) v) u v) v = some (lim_g u v) := by
  exact fun u v h => run_hg h
noncomputable def lim_m (st : Stt) : Option (Tr (Ex × Stt)) := sumM lim_read lim_cond lim_St lim_g [(0, .exit 0)] st
noncomputable def coB_L51 : FuncId → Loops := addL 35 [0, 1, 0, 1, 1] lim_m coA_L55
set_option maxRecDepth 100000 in
set_option maxHeartbeats 4000000 in
theorem coB_L51_ok : LoopsOK Try.prog coB_L51 :=
  loop_sumF (body := (bodyOf Try.prog 35)) (c := (loopOf (bodyOf Try.prog 35) [1, 1, 0, 1, 0])) (kinds := [.exit 0]) (allow := [(0, .exit 0)]) (St := lim_St) (step := lim_step) (W := [0, 2, 3, 6, 7, 8, 9, 13, 14, 15, 16, 17, 18, 19, 20, 21, 22, 23, 24, 25, 26, 27, 28, 29]) (As := []) (ks := [2]) (dd := []) (nx := 1007) (n := 100000) (g := lim_g) (cond := lim_cond) (fuel := (fun u v => runF (lim_step u) v)) (read := lim_read) (by kernel_rfl) (coA_S58_ok) (coA_L55_ok) 7 ⟨Try.f35, by kernel_rfl, by kernel_rfl⟩ (by kernel_rfl) (by kernel_rfl) (by kernel_rfl) lim_step_eq lim_hg lim_read_ok
def lmo (v : Int) (o : Opn) : Opn := bif o.1 == (3 : Int) then (o.1, (o.2.1, (o.2.2.1, (o.2.2.2.1, (min (oSp o) v, oCs o))))) else o
def lmt (v : Int) (L : List Opn) : List Opn := L.map (lmo v)
theorem lmt_ok {v : Int} {L : List Opn} (h : lOk L = true) : lOk (lmt v L) = true := by
  obtain ⟨h1, h2⟩ := lOk_iff.1 h
  refine lOk_iff.2 ⟨by unfold lmt; rw [List.length_map]; exact h1, fun i hi => ?_⟩
  have hi' : i < L.length := by unfold lmt at hi; rwa [List.length_map] at hi
  have e0 : (lmt v L)[i] = lmo v L[i] := List.getElem_map (lmo v) (l := L) (h := hi)
  have e : oCs (lmt v L)[i] = oCs L[i] := by
    rw [e0]
    unfold lmo
    cases L[i].1 == 3 <;> rfl
  rw [e]; exact h2 i hi'
theorem lmt_take {v : Int} {L : List Opn} {j : Nat} (hj : j < L.length) : (lmt v (L.take j) ++ L.drop j).set j (lmo v L[j]) = lmt v (L.take (j + 1)) ++ L.drop (j + 1) := by
  have hl : (lmt v (L.take j)).length = j := by unfold lmt; rw [List.length_map, List.length_take]; omega
  rw [List.set_append_right _ _ (by omega), hl, Nat.sub_self, List.drop_eq_getElem_cons hj]
  unfold lmt
  rw [List.take_succ_eq_append_getElem hj, List.map_append, List.set_cons_zero, List.append_assoc]
  rfl
theorem lim_run {L : List Opn} {v : Int} (h : L.length ≤ 100) : lim_cond (v, L, (L.length : Int)) (0, L) = true ∧ lim_g (v, L, (L.length : Int)) (0, L) = (0, ((L.length : Int), lmt v L)) := by
  have R := run_steps (step := lim_step (v, L, (L.length : Int))) (St := fun j => ((j : Int), lmt v (L.take j) ++ L.drop j)) (n := L.length) (t := (0, ((L.length : Int), lmt v L))) (by
    simp only [lim_step, Tr.val, Int.lt_irrefl, decide_false, cond_false, List.take_length, List.drop_length, List.append_nil]) L.length 0 (Nat.zero_add _) (fun j _ hj => by
    have hl : (lmt v (L.take j) ++ L.drop j).length = L.length := by unfold lmt; simp; omega
    have c2 : decide ((j : Int) < ((lmt v (L.take j) ++ L.drop j).length : Int)) = true := decide_eq_true (by rw [hl]; omega)
    have c3 : decide (j < (lmt v (L.take j) ++ L.drop j).length) = true := decide_eq_true (by rw [hl]; omega)
    have eg : (lmt v (L.take j) ++ L.drop j)[j]'(by rw [hl]; exact hj) = L[j] := by
      have h0 : (lmt v (L.take j)).length = j := by unfold lmt; rw [List.length_map, List.length_take]; omega
      rw [List.getElem_append_right (by omega)]
      simp [h0]
    have eo : el_iiiiilii (lmt v (L.take j) ++ L.drop j) (j : Int) = L[j] := by rw [el_o (by rw [hl]; exact hj), eg]
    have S := lmt_take (v := v) hj
    have w1 := wi1 hj (show (L.length : Int) ≤ 9223372036854775806 by omega)
    unfold lmo at S
    cases hb : L[j].1 == (3 : Int)
    · rw [hb] at S
      have e2 : (lmt v (L.take j) ++ L.drop j).set j L[j] = lmt v (L.take j) ++ L.drop j := by
        have : L[j] = (lmt v (L.take j) ++ L.drop j)[j]'(by rw [hl]; exact hj) := eg.symm
        rw [this, List.set_getElem_self]
      have S : (lmt v (L.take j) ++ L.drop j).set j L[j] = _ := S
      rw [e2] at S
      simp only [lim_step, Tr.val, lt_t hj, nn_t, el_o hj, hb, w1, Bool.and_self, cond_true, cond_false, S]
    · rw [hb] at S
      have mm : (if v < L[j].2.2.2.2.1 then v else L[j].2.2.2.2.1) = min (oSp L[j]) v := by
        show (if v < oSp L[j] then v else oSp L[j]) = _
        split <;> omega
      simp only [lim_step, Tr.val, lt_t hj, nn_t, el_o hj, eo, hb, w1, c2, c3, Int.toNat_natCast, Bool.and_self, cond_true, mm]
      first | exact congrArg (fun q => some (Sum.inl (((j + 1 : Nat) : Int), q))) S | (simp only [cond_true] at S; rw [S]) | trace_state)
  exact R
set_option maxRecDepth 100000 in
theorem lmc_tree (L : (Ty.list (.prod (.int .i64) (.prod (.int .i64) (.prod (.int .i64) (.prod (.int .i64) (.prod (.int .i64) (.list (.prod (.int .i64) (.int .i64))))))))).den) (v : Int) : evalF Try.prog coA_S58 (opens []) coB_L51 9 35 [.one (.d false false (.prod (.int .i64) (.prod (.int .i64) (.prod (.int .i64) (.prod (.int .i64) (.prod (.int .i64) (.list (.prod (.int .i64) (.int .i64)))))))) L), .one (.v false (.int .i64 v))] = .br (((decide (List.length L * (64 : Nat) ≤ maxNew) && decide (List.length L ≤ maxLen)) && ((lim_cond (v, L, (↑(List.length L) : Int)) ((0 : Int), L)) && (Nat.beq (Prod.fst (lim_g (v, L, (↑(List.length L) : Int)) ((0 : Int), L))) (0 : Nat))))) (.ret (.one (.d false false (.prod (.int .i64) (.prod (.int .i64) (.prod (.int .i64) (.prod (.int .i64) (.prod (.int .i64) (.list (.prod (.int .i64) (.int .i64)))))))) (Prod.snd (Prod.snd (lim_g (v, L, (↑(List.length L) : Int)) ((0 : Int), L))))))) (.bad 116) := by kernel_rfl
theorem lmc_val (L : (Ty.list (.prod (.int .i64) (.prod (.int .i64) (.prod (.int .i64) (.prod (.int .i64) (.prod (.int .i64) (.list (.prod (.int .i64) (.int .i64))))))))).den) (v : Int) (hc : (decide (L.length ≤ 100)) = true) : (.br (((decide (List.length L * (64 : Nat) ≤ maxNew) && decide (List.length L ≤ maxLen)) && ((lim_cond (v, L, (↑(List.length L) : Int)) ((0 : Int), L)) && (Nat.beq (Prod.fst (lim_g (v, L, (↑(List.length L) : Int)) ((0 : Int), L))) (0 : Nat))))) (.ret (.one (.d false false (.prod (.int .i64) (.prod (.int .i64) (.prod (.int .i64) (.prod (.int .i64) (.prod (.int .i64) (.list (.prod (.int .i64) (.int .i64)))))))) (Prod.snd (Prod.snd (lim_g (v, L, (↑(List.length L) : Int)) ((0 : Int), L))))))) (.bad 116) : Tr AV).val = some (.one (.d false false (.prod (.int .i64) (.prod (.int .i64) (.prod (.int .i64) (.prod (.int .i64) (.prod (.int .i64) (.list (.prod (.int .i64) (.int .i64)))))))) (lmt v L))) := by
  have hc := of_decide_eq_true hc
  obtain ⟨v1, v2⟩ := lim_run (L := L) (v := v) hc
  obtain ⟨r1, r2⟩ := room64 (n := L.length) (by omega)
  show cond _ _ _ = _
  simp only [v1, v2, r1, r2, Nat.beq, Bool.and_self, cond_true, Tr.val]
noncomputable def lmc_g : List AV → Option (Tr AV)
  | [.one (.d _ _ (.prod (.int .i64) (.prod (.int .i64) (.prod (.int .i64) (.prod (.int .i64) (.prod (.int .i64) (.list (.prod (.int .i64) (.int .i64)))))))) L), .one (.v _ (.int .i64 v))] => some (.br (decide (L.length ≤ 100)) (.ret (.one (.d false false (.prod (.int .i64) (.prod (.int .i64) (.prod (.int .i64) (.prod (.int .i64) (.prod (.int .i64) (.list (.prod (.int .i64) (.int .i64)))))))) (lmt v L)))) (.bad 900))
  | _ => none
set_option maxHeartbeats 4000000 in
theorem lmc_ok : FunOK Try.prog 35 lmc_g := by
  refine fun_ok (by kernel_rfl) (coA_S58_ok) (coB_L51_ok) 9 (On := (opens [])) (fun args t h => ?_)
  unfold lmc_g at h
  split at h
  · rename_i _ _ L _ v
    simp only [Option.some.injEq] at h
    subst h
    refine ⟨[.one (.d false false (.prod (.int .i64) (.prod (.int .i64) (.prod (.int .i64) (.prod (.int .i64) (.prod (.int .i64) (.list (.prod (.int .i64) (.int .i64)))))))) L), .one (.v false (.int .i64 v))], rfl, fun fr w us h => h, fun r hr => ?_⟩
    obtain ⟨hc, hr⟩ := br_bad hr
    simp only [Tr.val, Option.some.injEq] at hr
    subst hr
    rw [lmc_tree]
    exact lmc_val L v hc
  · cases h
noncomputable def coB_S52 : Sums := addS 35 lmc_g coA_S58
theorem coB_S52_ok : SumOK Try.prog coB_S52 := addS_ok (lmc_ok) (coA_S58_ok)
abbrev sea_U : Type := Int × Int × Int × Int × Int × Int × Int × Int × Int × Bool × Int × Int × Int × Int × Int × Int × Int × Int × Int × Int × Int × Int × (Ty.list (.prod (.int .i64) (.prod (.int .i64) (.prod (.int .i64) (.prod (.int .i64) (.prod (.int .i64) (.list (.prod (.int .i64) (.int .i64))))))))).den
abbrev sea_V : Type := Int × Int
noncomputable def sea_St (u : sea_U) (v : sea_V) : Stt := ⟨[.one .junk, .one (.fn 42 [((19 : Nat), (0 : Nat)), ((15 : Nat), (0 : Nat)), ((1 : Nat), (0 : Nat))]), .one .junk, .one .junk, .one (.v false (.int .i64 u.1)), .one (.v false (.int .i64 v.1)), .one (.v false (.int .i64 v.2)), .one .junk, .one .junk, .one .junk, .one .junk, .one .junk, .one .junk, .one .junk, .one .junk, .one .junk, .one .junk, .one .junk, .one .junk, .one .junk, .one .junk, .one .junk, .one .junk, .one .junk, .one .junk, .one .junk], [(19, .cells [.fn 40 [((0 : Nat), (0 : Nat))]]), (15, .cells [.v false (.int .i64 u.2.1)]), (1, .cells [.v false (.int .i64 u.2.2.1), .v false (.int .i64 u.2.2.2.1), .v false (.int .i64 u.2.2.2.2.1), .v false (.int .i64 u.2.2.2.2.2.1), .v false (.int .i64 u.2.2.2.2.2.2.1), .v false (.int .i64 u.2.2.2.2.2.2.2.1), .v false (.int .i64 u.2.2.2.2.2.2.2.2.1), .v false (.bool u.2.2.2.2.2.2.2.2.2.1), .v false (.int .i64 u.2.2.2.2.2.2.2.2.2.2.1), .v false (.int .i64 u.2.2.2.2.2.2.2.2.2.2.2.1), .v false (.int .i64 u.2.2.2.2.2.2.2.2.2.2.2.2.1), .v false (.int .i64 u.2.2.2.2.2.2.2.2.2.2.2.2.2.1), .v false (.int .i64 u.2.2.2.2.2.2.2.2.2.2.2.2.2.2.1), .v false (.int .i64 u.2.2.2.2.2.2.2.2.2.2.2.2.2.2.2.1), .v false (.int .i64 u.2.2.2.2.2.2.2.2.2.2.2.2.2.2.2.2.1), .v false (.int .i64 u.2.2.2.2.2.2.2.2.2.2.2.2.2.2.2.2.2.1), .v false (.int .i64 u.2.2.2.2.2.2.2.2.2.2.2.2.2.2.2.2.2.2.1), .v false (.int .i64 u.2.2.2.2.2.2.2.2.2.2.2.2.2.2.2.2.2.2.2.1), .v false (.int .i64 u.2.2.2.2.2.2.2.2.2.2.2.2.2.2.2.2.2.2.2.2.1), .v false (.int .i64 u.2.2.2.2.2.2.2.2.2.2.2.2.2.2.2.2.2.2.2.2.2.1)]), (0, .cells [.d false false (.prod (.int .i64) (.prod (.int .i64) (.prod (.int .i64) (.prod (.int .i64) (.prod (.int .i64) (.list (.prod (.int .i64) (.int .i64)))))))) u.2.2.2.2.2.2.2.2.2.2.2.2.2.2.2.2.2.2.2.2.2.2])], 28004⟩
noncomputable def sea_step (u : sea_U) (v : sea_V) : Tr (sea_V ⊕ (Nat × sea_V)) :=
  match u, v with
  | (_, q3, q4, q5, q6, q7, q8, q9, q10, q11, q12, q13, q14, q15, q16, q17, q18, q19, q20, q21, q22, q23, q24), (q1, q2) => .br (decide (q1 < q2)) (.br (decide (List.length q24 ≤ (100 : Nat))) (.br (lOk (lmt (IntKind.wrap IntKind.i64 (q3 + IntKind.wrap IntKind.i64 (Int.fdiv (IntKind.wrap IntKind.u64 (IntKind.wrap IntKind.i64 (q1 + q2))) ((2 : Int) ^ min (Int.toNat (1 : Int)) (IntKind.bits IntKind.u64))))) q24)) (.br (((decide (q3 = q3)) && ((decide (q4 = q4)) && ((decide (q5 = q5)) && ((decide (q6 = q6)) && ((decide (q7 = q7)) && ((decide (q8 = q8)) && ((decide (q9 = q9)) && ((decide (q10 = q10)) && ((q11 == q11) && ((decide (q12 = q12)) && ((decide (q13 = q13)) && ((decide (q14 = q14)) && ((decide (q15 = q15)) && ((decide (q16 = q16)) && ((decide (q17 = q17)) && ((decide (q18 = q18)) && ((decide (q19 = q19)) && ((decide (q20 = q20)) && ((decide (q21 = q21)) && ((decide (q22 = q22)) && (decide (q23 = q23))))))))))))))))))))))) (.br (!decide (tmL (lmt (IntKind.wrap IntKind.i64 (q3 + IntKind.wrap IntKind.i64 (Int.fdiv (IntKind.wrap IntKind.u64 (IntKind.wrap IntKind.i64 (q1 + q2))) ((2 : Int) ^ min (Int.toNat (1 : Int)) (IntKind.bits IntKind.u64))))) q24) < q20)) (.ret (.inl (IntKind.wrap IntKind.i64 (IntKind.wrap IntKind.i64 (Int.fdiv (IntKind.wrap IntKind.u64 (IntKind.wrap IntKind.i64 (q1 + q2))) ((2 : Int) ^ min (Int.toNat (1 : Int)) (IntKind.bits IntKind.u64))) + (1 : Int)), q2))) (.ret (.inl (q1, IntKind.wrap IntKind.i64 (Int.fdiv (IntKind.wrap IntKind.u64 (IntKind.wrap IntKind.i64 (q1 + q2))) ((2 : Int) ^ min (Int.toNat (1 : Int)) (IntKind.bits IntKind.u64))))))) (.bad 127)) (.bad 900)) (.bad 900)) (.ret (.inr (0, (q1, q2))))
set_option maxRecDepth 100000 in
set_option maxHeartbeats 4000000 in
theorem sea_step_eq : ∀ (u : sea_U) (v : sea_V), (evalC Try.prog (evalB Try.prog coB_S52 (opens []) coB_L51 7).1 (evalB Try.prog coB_S52 (opens []) coB_L51 7).2 (opens []) (coB_L51 41) 100000 (0 :: [0, 0, 1, 1]) (loopOf (bodyOf Try.prog 41) [1, 1, 0, 0]) (sea_St u v) []).bind (finF [0, 2, 3, 7, 8, 9, 10, 11, 12, 13, 14, 15, 16, 17, 18, 19, 20, 21, 22, 23, 24, 25] [] [19, 15, 1, 0] [] 28004) = (sea_step u v).bind (outA (sea_St u) [.exit 0]) := by
  rintro ⟨q0, q3, q4, q5, q6, q7, q8, q9, q10, q11, q12, q13, q14, q15, q16, q17, q18, q19, q20, q21, q22, q23, q24⟩ ⟨q1, q2⟩
  kernel_rfl
noncomputable def sea_rd (b : Bool) (o1 : Option AV) (o4 : Option AV) (o5 : Option AV) (o6 : Option AV) (own : Own) : Option (sea_U × sea_V) := zrT b <| zrO o1 fun za1 => zrA1 za1 fun zc2 => zrF 42 [((19 : Nat), (0 : Nat)), ((15 : Nat), (0 : Nat)), ((1 : Nat), (0 : Nat))] zc2 <| zrO o4 fun za3 => zrA1 za3 fun zc4 => zrI .i64 zc4 fun q0 => zrO o5 fun za5 => zrA1 za5 fun zc6 => zrI .i64 zc6 fun q1 => zrO o6 fun za7 => zrA1 za7 fun zc8 => zrI .i64 zc8 fun q2 => zrL own fun zq9 zw10 => zrKey 19 zq9 fun zk11 => zrC zk11 fun zl12 => zrL zl12 fun zc13 zr14 => zrF 40 [((0 : Nat), (0 : Nat))] zc13 <| zrN zr14 <| zrL zw10 fun zq15 zw16 => zrKey 15 zq15 fun zk17 => zrC zk17 fun zl18 => zrL zl18 fun zc19 zr20 => zrI .i64 zc19 fun q3 => zrN zr20 <| zrL zw16 fun zq21 zw22 => zrKey 1 zq21 fun zk23 => zrC zk23 fun zl24 => zrL zl24 fun zc25 zr26 => zrI .i64 zc25 fun q4 => zrL zr26 fun zc27 zr28 => zrI .i64 zc27 fun q5 => zrL zr28 fun zc29 zr30 => zrI .i64 zc29 fun q6 => zrL zr30 fun zc31 zr32 => zrI .i64 zc31 fun q7 => zrL zr32 fun zc33 zr34 => zrI .i64 zc33 fun q8 => zrL zr34 fun zc35 zr36 => zrI .i64 zc35 fun q9 => zrL zr36 fun zc37 zr38 => zrI .i64 zc37 fun q10 => zrL zr38 fun zc39 zr40 => zrB zc39 fun q11 => zrL zr40 fun zc41 zr42 => zrI .i64 zc41 fun q12 => zrL zr42 fun zc43 zr44 => zrI .i64 zc43 fun q13 => zrL zr44 fun zc45 zr46 => zrI .i64 zc45 fun q14 => zrL zr46 fun zc47 zr48 => zrI .i64 zc47 fun q15 => zrL zr48 fun zc49 zr50 => zrI .i64 zc49 fun q16 => zrL zr50 fun zc51 zr52 => zrI .i64 zc51 fun q17 => zrL zr52 fun zc53 zr54 => zrI .i64 zc53 fun q18 => zrL zr54 fun zc55 zr56 => zrI .i64 zc55 fun q19 => zrL zr56 fun zc57 zr58 => zrI .i64 zc57 fun q20 => zrL zr58 fun zc59 zr60 => zrI .i64 zc59 fun q21 => zrL zr60 fun zc61 zr62 => zrI .i64 zc61 fun q22 => zrL zr62 fun zc63 zr64 => zrI .i64 zc63 fun q23 => zrN zr64 <| zrL zw22 fun zq65 zw66 => zrKey 0 zq65 fun zk67 => zrC zk67 fun zl68 => zrL zl68 fun zc69 zr70 => zrD (.prod (.int .i64) (.prod (.int .i64) (.prod (.int .i64) (.prod (.int .i64) (.prod (.int .i64) (.list (.prod (.int .i64) (.int .i64)))))))) zc69 fun q24 => zrN zr70 <| zrN zw66 <| some ((q0, q3, q4, q5, q6, q7, q8, q9, q10, q11, q12, q13, q14, q15, q16, q17, q18, q19, q20, q21, q22, q23, q24), (q1, q2))
noncomputable def sea_can (st : Stt) : Stt := canA [0, 2, 3, 7, 8, 9, 10, 11, 12, 13, 14, 15, 16, 17, 18, 19, 20, 21, 22, 23, 24, 25] [] [19, 15, 1, 0] [] 28004 st
noncomputable def sea_cok (st : Stt) : Bool := canAok [0, 2, 3, 7, 8, 9, 10, 11, 12, 13, 14, 15, 16, 17, 18, 19, 20, 21, 22, 23, 24, 25] [] [19, 15, 1, 0] [] 28004 st
noncomputable def sea_read (st : Stt) : Option (sea_U × sea_V) := sea_rd (sea_cok st && (staysA [] [19, 15, 1, 0] st.own && juAll [0, 2, 3, 7, 8, 9, 10, 11, 12, 13, 14, 15, 16, 17, 18, 19, 20, 21, 22, 23, 24, 25] (sea_can st).tm 26)) (sea_can st).tm[1]? (sea_can st).tm[4]? (sea_can st).tm[5]? (sea_can st).tm[6]? (sea_can st).own
set_option maxRecDepth 100000 in
set_option maxHeartbeats 4000000 in
theorem sea_rd_ok {b : Bool} {tm : List AV} {own : Own} {u : sea_U} {v : sea_V} (hj : b = true → juAll [0, 2, 3, 7, 8, 9, 10, 11, 12, 13, 14, 15, 16, 17, 18, 19, 20, 21, 22, 23, 24, 25] tm 26 = true) (h : sea_rd b tm[1]? tm[4]? tm[5]? tm[6]? own = some (u, v)) : b = true ∧ tm = (sea_St u v).tm ∧ own = (sea_St u v).own := by
  unfold sea_rd at h
  obtain ⟨rfl, h0⟩ := zrT_some h
  obtain ⟨za1, e1, h1⟩ := zrO_some h0
  obtain ⟨zc2, rfl, h2⟩ := zrA1_some h1
  obtain ⟨rfl, h3⟩ := zrF_some h2
  obtain ⟨za3, e4, h4⟩ := zrO_some h3
  obtain ⟨zc4, rfl, h5⟩ := zrA1_some h4
  obtain ⟨q0, rfl, h6⟩ := zrI_some h5
  obtain ⟨za5, e5, h7⟩ := zrO_some h6
  obtain ⟨zc6, rfl, h8⟩ := zrA1_some h7
  obtain ⟨q1, rfl, h9⟩ := zrI_some h8
  obtain ⟨za7, e6, h10⟩ := zrO_some h9
  obtain ⟨zc8, rfl, h11⟩ := zrA1_some h10
  obtain ⟨q2, rfl, h12⟩ := zrI_some h11
  obtain ⟨zq9, zw10, rfl, h13⟩ := zrL_some h12
  obtain ⟨zk11, rfl, h14⟩ := zrKey_some h13
  obtain ⟨zl12, rfl, h15⟩ := zrC_some h14
  obtain ⟨zc13, zr14, rfl, h16⟩ := zrL_some h15
  obtain ⟨rfl, h17⟩ := zrF_some h16
  obtain ⟨rfl, h18⟩ := zrN_some h17
  obtain ⟨zq15, zw16, rfl, h19⟩ := zrL_some h18
  obtain ⟨zk17, rfl, h20⟩ := zrKey_some h19
  obtain ⟨zl18, rfl, h21⟩ := zrC_some h20
  obtain ⟨zc19, zr20, rfl, h22⟩ := zrL_some h21
  obtain ⟨q3, rfl, h23⟩ := zrI_some h22
  obtain ⟨rfl, h24⟩ := zrN_some h23
  obtain ⟨zq21, zw22, rfl, h25⟩ := zrL_some h24
  obtain ⟨zk23, rfl, h26⟩ := zrKey_some h25
  obtain ⟨zl24, rfl, h27⟩ := zrC_some h26
  obtain ⟨zc25, zr26, rfl, h28⟩ := zrL_some h27
  obtain ⟨q4, rfl, h29⟩ := zrI_some h28
  obtain ⟨zc27, zr28, rfl, h30⟩ := zrL_some h29
  obtain ⟨q5, rfl, h31⟩ := zrI_some h30
  obtain ⟨zc29, zr30, rfl, h32⟩ := zrL_some h31
  obtain ⟨q6, rfl, h33⟩ := zrI_some h32
  obtain ⟨zc31, zr32, rfl, h34⟩ := zrL_some h33
  obtain ⟨q7, rfl, h35⟩ := zrI_some h34
  obtain ⟨zc33, zr34, rfl, h36⟩ := zrL_some h35
  obtain ⟨q8, rfl, h37⟩ := zrI_some h36
  obtain ⟨zc35, zr36, rfl, h38⟩ := zrL_some h37
  obtain ⟨q9, rfl, h39⟩ := zrI_some h38
  obtain ⟨zc37, zr38, rfl, h40⟩ := zrL_some h39
  obtain ⟨q10, rfl, h41⟩ := zrI_some h40
  obtain ⟨zc39, zr40, rfl, h42⟩ := zrL_some h41
  obtain ⟨q11, rfl, h43⟩ := zrB_some h42
  obtain ⟨zc41, zr42, rfl, h44⟩ := zrL_some h43
  obtain ⟨q12, rfl, h45⟩ := zrI_some h44
  obtain ⟨zc43, zr44, rfl, h46⟩ := zrL_some h45
  obtain ⟨q13, rfl, h47⟩ := zrI_some h46
  obtain ⟨zc45, zr46, rfl, h48⟩ := zrL_some h47
  obtain ⟨q14, rfl, h49⟩ := zrI_some h48
  obtain ⟨zc47, zr48, rfl, h50⟩ := zrL_some h49
  obtain ⟨q15, rfl, h51⟩ := zrI_some h50
  obtain ⟨zc49, zr50, rfl, h52⟩ := zrL_some h51
  obtain ⟨q16, rfl, h53⟩ := zrI_some h52
  obtain ⟨zc51, zr52, rfl, h54⟩ := zrL_some h53
  obtain ⟨q17, rfl, h55⟩ := zrI_some h54
  obtain ⟨zc53, zr54, rfl, h56⟩ := zrL_some h55
  obtain ⟨q18, rfl, h57⟩ := zrI_some h56
  obtain ⟨zc55, zr56, rfl, h58⟩ := zrL_some h57
  obtain ⟨q19, rfl, h59⟩ := zrI_some h58
  obtain ⟨zc57, zr58, rfl, h60⟩ := zrL_some h59
  obtain ⟨q20, rfl, h61⟩ := zrI_some h60
  obtain ⟨zc59, zr60, rfl, h62⟩ := zrL_some h61
  obtain ⟨q21, rfl, h63⟩ := zrI_some h62
  obtain ⟨zc61, zr62, rfl, h64⟩ := zrL_some h63
  obtain ⟨q22, rfl, h65⟩ := zrI_some h64
  obtain ⟨zc63, zr64, rfl, h66⟩ := zrL_some h65
  obtain ⟨q23, rfl, h67⟩ := zrI_some h66
  obtain ⟨rfl, h68⟩ := zrN_some h67
  obtain ⟨zq65, zw66, rfl, h69⟩ := zrL_some h68
  obtain ⟨zk67, rfl, h70⟩ := zrKey_some h69
  obtain ⟨zl68, rfl, h71⟩ := zrC_some h70
  obtain ⟨zc69, zr70, rfl, h72⟩ := zrL_some h71
  obtain ⟨q24, rfl, h73⟩ := zrD_some h72
  obtain ⟨rfl, h74⟩ := zrN_some h73
  obtain ⟨rfl, h75⟩ := zrN_some h74
  have h := Option.some.inj h75
  have hu := congrArg Prod.fst h
  have hv := congrArg Prod.snd h
  dsimp only at hu hv
  subst hu
  subst hv
  exact ⟨rfl, (tm_fill (hj rfl) (Lv := [(1, .one (.fn 42 [((19 : Nat), (0 : Nat)), ((15 : Nat), (0 : Nat)), ((1 : Nat), (0 : Nat))])), (4, .one (.v false (.int .i64 q0))), (5, .one (.v false (.int .i64 q1))), (6, .one (.v false (.int .i64 q2)))]) (by kernel_rfl) ⟨e1, e4, e5, e6, trivial⟩).trans (by kernel_rfl), rfl⟩
theorem sea_read_ok (st : Stt) (u : sea_U) (v : sea_V) (h : sea_read st = some (u, v)) : sea_cok st = true ∧ staysA [] [19, 15, 1, 0] st.own = true ∧ sea_can st = sea_St u v := by
  obtain ⟨h1, h2, h3⟩ := sea_rd_ok (fun hb => by rw [Bool.and_eq_true, Bool.and_eq_true] at hb; exact hb.2.2) h
  rw [Bool.and_eq_true, Bool.and_eq_true] at h1
  refine ⟨h1.1, h1.2.1, ?_⟩
  have e : sea_can st = ⟨(sea_can st).tm, (sea_can st).own, 28004⟩ := by kernel_rfl
  rw [e, h2, h3]
  rfl
noncomputable def sea_cond (u : sea_U) (v : sea_V) : Bool := runC (sea_step u) v
noncomputable def sea_g (u : sea_U) (v : sea_V) : Nat × sea_V := runG (sea_step u) v
theorem sea_hg : ∀ (u : sea_U) (v : sea_V), sea_cond u v = true → loopN (sea_step u) ((fun u v => runF (sea_step u) v) u v) v = some (sea_g u v) := by
  exact fun u v h => run_hg h
noncomputable def sea_m (st : Stt) : Option (Tr (Ex × Stt)) := sumM sea_read sea_cond sea_St sea_g [(0, .exit 0)] st
noncomputable def coB_L53 : FuncId → Loops := addL 41 [0, 0, 1, 1] sea_m coB_L51
set_option maxRecDepth 100000 in
set_option maxHeartbeats 4000000 in
theorem coB_L53_ok : LoopsOK Try.prog coB_L53 :=
  loop_sumF (body := (bodyOf Try.prog 41)) (c := (loopOf (bodyOf Try.prog 41) [1, 1, 0, 0])) (kinds := [.exit 0]) (allow := [(0, .exit 0)]) (St := sea_St) (step := sea_step) (W := [0, 2, 3, 7, 8, 9, 10, 11, 12, 13, 14, 15, 16, 17, 18, 19, 20, 21, 22, 23, 24, 25]) (As := []) (ks := [19, 15, 1, 0]) (dd := []) (nx := 28004) (n := 100000) (g := sea_g) (cond := sea_cond) (fuel := (fun u v => runF (sea_step u) v)) (read := sea_read) (by kernel_rfl) (coB_S52_ok) (coB_L51_ok) 7 ⟨Try.f41, by kernel_rfl, by kernel_rfl⟩ (by kernel_rfl) (by kernel_rfl) (by kernel_rfl) sea_step_eq sea_hg sea_read_ok
def slw (mf pi : Int) : Int := if Int.tdiv mf pi > 1 then Int.tdiv mf pi else 1
/-- Is the time long enough at a speed. -/
def eno (L : List Opn) (mt v : Int) : Bool := !decide (tmL (lmt v L) < mt)
theorem half_u {i j : Int} (h0 : 0 ≤ i) (h1 : i < j) (h2 : j ≤ 2097152) : IntKind.wrap IntKind.i64 (Int.fdiv (IntKind.wrap IntKind.u64 (IntKind.wrap IntKind.i64 (i + j))) ((2 : Int) ^ min (Int.toNat (1 : Int)) (IntKind.bits IntKind.u64))) = (i + j) / 2 := by
  have e : ((2 : Int) ^ min (Int.toNat (1 : Int)) (IntKind.bits IntKind.u64)) = 2 := by decide
  rw [e, wid (x := i + j) (by omega) (by omega), show IntKind.wrap IntKind.u64 (i + j) = i + j from IntWalk.u64_in _ ⟨by omega, by omega⟩]
  have : Int.fdiv (i + j) 2 = (i + j) / 2 := Int.fdiv_eq_ediv_of_nonneg _ (by omega)
  rw [this, wid (by omega) (by omega)]
set_option maxHeartbeats 4000000 in
theorem sea_run {L : List Opn} (hL : lOk L = true) {z sl n : Int} (pi he wa tp bo pa sp re ga br sk dr fe tr rt mt mf nz bd : Int) (su : Bool) (h0 : 0 ≤ n) (hn : n ≤ 1048577) (hs : 1 ≤ sl ∧ sl ≤ 1048576) :
    sea_cond (z, sl, pi, he, wa, tp, bo, pa, sp, su, re, ga, br, sk, dr, fe, tr, rt, mt, mf, nz, bd, L) (0, n) = true ∧ (sea_g (z, sl, pi, he, wa, tp, bo, pa, sp, su, re, ga, br, sk, dr, fe, tr, rt, mt, mf, nz, bd, L) (0, n)).1 = 0 ∧ ∃ r, (sea_g (z, sl, pi, he, wa, tp, bo, pa, sp, su, re, ga, br, sk, dr, fe, tr, rt, mt, mf, nz, bd, L) (0, n)).2.1 = r ∧ 0 ≤ r ∧ r ≤ n ∧ (r = 0 ∨ eno L mt (sl + (r - 1)) = true) ∧ (r = n ∨ eno L mt (sl + r) = false) := by
  refine run_val (step := sea_step (z, sl, pi, he, wa, tp, bo, pa, sp, su, re, ga, br, sk, dr, fe, tr, rt, mt, mf, nz, bd, L)) (Inv := fun v => ∃ i j : Int, v = (i, j) ∧ 0 ≤ i ∧ i ≤ j ∧ j ≤ n ∧ (i = 0 ∨ eno L mt (sl + (i - 1)) = true) ∧ (j = n ∨ eno L mt (sl + j) = false)) (μ := fun v => (v.2 - v.1).toNat) (Q := fun t => t.1 = 0 ∧ ∃ r, t.2.1 = r ∧ 0 ≤ r ∧ r ≤ n ∧ (r = 0 ∨ eno L mt (sl + (r - 1)) = true) ∧ (r = n ∨ eno L mt (sl + r) = false)) ?_ _ _ (Nat.lt_succ_self _) ⟨0, n, rfl, by omega, h0, Int.le_refl _, .inl rfl, .inl rfl⟩
  rintro v ⟨i, j, rfl, i0, ij, jn, hi, hj⟩
  by_cases hlt : i < j
  · have c1 : decide (i < j) = true := decide_eq_true hlt
    have c2 : decide (L.length ≤ 100) = true := decide_eq_true (lOk_iff.1 hL).1
    have hh := half_u i0 hlt (by omega)
    have w1 : IntKind.wrap IntKind.i64 (sl + (i + j) / 2) = sl + (i + j) / 2 := wid (by omega) (by omega)
    have w2 : IntKind.wrap IntKind.i64 ((i + j) / 2 + 1) = (i + j) / 2 + 1 := wid (by omega) (by omega)
    have c3 : lOk (lmt (sl + (i + j) / 2) L) = true := lmt_ok hL
    have he : (!decide (tmL (lmt (sl + (i + j) / 2) L) < mt)) = eno L mt (sl + (i + j) / 2) := rfl
    cases hb : eno L mt (sl + (i + j) / 2)
    · refine ⟨.inl (i, (i + j) / 2), ?_, ⟨i, (i + j) / 2, rfl, i0, by omega, by omega, hi, .inr hb⟩, by show ((i + j) / 2 - i).toNat < (j - i).toNat; omega⟩
      rw [← he] at hb
      simp only [sea_step, Tr.val, c1, c2, hh, w1, c3, hb, decide_true, beq_self_eq_true, Bool.and_self, cond_true, cond_false]
    · refine ⟨.inl ((i + j) / 2 + 1, j), ?_, ⟨(i + j) / 2 + 1, j, rfl, by omega, by omega, jn, .inr (by rw [show sl + ((i + j) / 2 + 1 - 1) = sl + (i + j) / 2 by omega]; exact hb), hj⟩, by show (j - ((i + j) / 2 + 1)).toNat < (j - i).toNat; omega⟩
      rw [← he] at hb
      simp only [sea_step, Tr.val, c1, c2, hh, w1, w2, c3, hb, decide_true, beq_self_eq_true, Bool.and_self, cond_true]
  · have e : i = j := by omega
    subst e
    have c1 : decide (i < i) = false := decide_eq_false hlt
    exact ⟨.inr (0, (i, i)), by simp only [sea_step, Tr.val, c1, cond_false], rfl, i, rfl, i0, jn, hi, hj⟩
end Go.Proofs.Ytbmdbejoignenaa
