/-
  Layer 36: the document's Limited and Slow.
-/
import Derived.Test.YtbmdbejoignenaaProg
import Derived.Test.YtbmdbejoignenaaFvX
import Derived.Test.YtbmdbejoignenaaFvZ
import Derived.Test.YtbmdbejoignenaaAut
import Derived.Test.YtbmdbejoignenaaRd
import Derived.Test.YtbmdbejoignenaaPl
import Derived.Test.YtbmdbejoignenaaScn
import Derived.Test.YtbmdbejoignenaaCoA
import Derived.Test.YtbmdbejoignenaaCoB
import Derived.Test.YtbmdbejoignenaaCoC
namespace Go.Proofs.Ytbmdbejoignenaa
open Go
abbrev rlm_U : Type := Int × (Ty.list (.prod (.int .i64) (.prod (.int .i64) (.prod (.int .i64) (.prod (.int .i64) (.prod (.int .i64) (.list (.prod (.int .i64) (.int .i64))))))))).den × Int
abbrev rlm_V : Type := Int × (Ty.list (.prod (.int .i64) (.prod (.int .i64) (.prod (.int .i64) (.prod (.int .i64) (.prod (.int .i64) (.list (.prod (.int .i64) (.int .i64))))))))).den
noncomputable def rlm_St (u : rlm_U) (v : rlm_V) : Stt := ⟨[.one .junk, .one (.v false (.int .i64 u.1)), .one .junk, .one .junk, .one (.v false (Value.slice none (0 : Nat) (0 : Nat))), .one (.s false 980 0 (none)), .one .junk, .one .junk, .one (.d false false (.prod (.int .i64) (.prod (.int .i64) (.prod (.int .i64) (.prod (.int .i64) (.prod (.int .i64) (.list (.prod (.int .i64) (.int .i64)))))))) u.2.1), .one (.v false (.int .i64 u.2.2)), .one (.v false (.int .i64 v.1)), .one .junk, .one .junk, .one .junk, .one .junk, .one .junk, .one .junk, .one .junk, .one .junk, .one .junk, .one .junk, .one .junk, .one .junk, .one .junk, .one .junk, .one .junk, .one .junk, .one .junk, .one .junk, .one .junk, .one .junk, .one .junk, .one .junk, .one .junk, .one .junk, .one .junk], [(980, .row true false false 29 (.prod (.int .i64) (.prod (.int .i64) (.prod (.int .i64) (.prod (.int .i64) (.prod (.int .i64) (.list (.prod (.int .i64) (.int .i64)))))))) v.2)], 1005⟩
noncomputable def rlm_step (u : rlm_U) (v : rlm_V) : Tr (rlm_V ⊕ (Nat × rlm_V)) :=
  match u, v with
  | (q0, q1, q2), (q3, q4) => .br (decide (q3 < q2)) (.br (decide ((0 : Int) ≤ q3) && decide (q3 < (↑(List.length q1) : Int))) (.br (decide (((0 : Nat) + List.length (Prod.snd (Prod.snd (Prod.snd (Prod.snd (Prod.snd (el_iiiiilii q1 q3))))))) * (16 : Nat) ≤ maxNew) && decide ((0 : Nat) + List.length (Prod.snd (Prod.snd (Prod.snd (Prod.snd (Prod.snd (el_iiiiilii q1 q3)))))) ≤ maxLen)) (.br (bif Prod.fst (el_iiiiilii q1 q3) == (3 : Int) then decide (Prod.fst (Prod.snd (Prod.snd (Prod.snd (Prod.snd (el_iiiiilii q1 q3))))) > q0) else false) (.br (decide ((List.length q4 + (1 : Nat)) * (64 : Nat) ≤ maxNew) && decide (List.length q4 + (1 : Nat) ≤ maxLen)) (.ret (.inl (IntKind.wrap IntKind.i64 (q3 + (1 : Int)), q4 ++ [(Prod.fst (el_iiiiilii q1 q3), Prod.fst (Prod.snd (el_iiiiilii q1 q3)), Prod.fst (Prod.snd (Prod.snd (el_iiiiilii q1 q3))), Prod.fst (Prod.snd (Prod.snd (Prod.snd (el_iiiiilii q1 q3)))), q0, Prod.snd (Prod.snd (Prod.snd (Prod.snd (Prod.snd (el_iiiiilii q1 q3))))))]))) (.bad 71)) (.br (decide ((List.length q4 + (1 : Nat)) * (64 : Nat) ≤ maxNew) && decide (List.length q4 + (1 : Nat) ≤ maxLen)) (.ret (.inl (IntKind.wrap IntKind.i64 (q3 + (1 : Int)), q4 ++ [(Prod.fst (el_iiiiilii q1 q3), Prod.fst (Prod.snd (el_iiiiilii q1 q3)), Prod.fst (Prod.snd (Prod.snd (el_iiiiilii q1 q3))), Prod.fst (Prod.snd (Prod.snd (Prod.snd (el_iiiiilii q1 q3)))), Prod.fst (Prod.snd (Prod.snd (Prod.snd (Prod.snd (el_iiiiilii q1 q3))))), Prod.snd (Prod.snd (Prod.snd (Prod.snd (Prod.snd (el_iiiiilii q1 q3))))))]))) (.bad 71))) (.bad 71)) (.bad 29)) (.ret (.inr (0, (q3, q4))))
set_option maxRecDepth 100000 in
set_option maxHeartbeats 4000000 in
theorem rlm_step_eq : ∀ (u : rlm_U) (v : rlm_V), (evalC Try.prog (evalB Try.prog coC_S55 (opens []) coB_L53 7).1 (evalB Try.prog coC_S55 (opens []) coB_L53 7).2 (opens []) (coB_L53 25) 100000 (0 :: [0, 1, 0, 1, 1]) (loopOf (bodyOf Try.prog 25) [1, 1, 0, 1, 0]) (rlm_St u v) []).bind (finF [0, 2, 3, 6, 7, 11, 12, 13, 14, 15, 16, 17, 18, 19, 20, 21, 22, 23, 24, 25, 26, 27, 28, 29, 30, 31, 32, 33, 34, 35] [⟨980, some 5, 0, 0, 29, (.prod (.int .i64) (.prod (.int .i64) (.prod (.int .i64) (.prod (.int .i64) (.prod (.int .i64) (.list (.prod (.int .i64) (.int .i64))))))))⟩] [980] [1028, 1031] 1005) = (rlm_step u v).bind (outA (rlm_St u) [.exit 0]) := by
  rintro ⟨q0, q1, q2⟩ ⟨q3, q4⟩
  kernel_rfl
noncomputable def rlm_rd (b : Bool) (o1 : Option AV) (o4 : Option AV) (o5 : Option AV) (o8 : Option AV) (o9 : Option AV) (o10 : Option AV) (own : Own) : Option (rlm_U × rlm_V) := zrT b <| zrO o1 fun za1 => zrA1 za1 fun zc2 => zrI .i64 zc2 fun q0 => zrO o4 fun za3 => zrA1 za3 fun zc4 => zrNil zc4 <| zrO o5 fun za5 => zrA1 za5 fun zc6 => zrSl 980 0 (none) zc6 <| zrO o8 fun za7 => zrA1 za7 fun zc8 => zrD (.prod (.int .i64) (.prod (.int .i64) (.prod (.int .i64) (.prod (.int .i64) (.prod (.int .i64) (.list (.prod (.int .i64) (.int .i64)))))))) zc8 fun q1 => zrO o9 fun za9 => zrA1 za9 fun zc10 => zrI .i64 zc10 fun q2 => zrO o10 fun za11 => zrA1 za11 fun zc12 => zrI .i64 zc12 fun q3 => zrL own fun zq13 zw14 => zrKey 980 zq13 fun zk15 => zrR true 29 (.prod (.int .i64) (.prod (.int .i64) (.prod (.int .i64) (.prod (.int .i64) (.prod (.int .i64) (.list (.prod (.int .i64) (.int .i64)))))))) zk15 fun q4 => zrN zw14 <| some ((q0, q1, q2), (q3, q4))
noncomputable def rlm_can (st : Stt) : Stt := canA [0, 2, 3, 6, 7, 11, 12, 13, 14, 15, 16, 17, 18, 19, 20, 21, 22, 23, 24, 25, 26, 27, 28, 29, 30, 31, 32, 33, 34, 35] [⟨980, some 5, 0, 0, 29, (.prod (.int .i64) (.prod (.int .i64) (.prod (.int .i64) (.prod (.int .i64) (.prod (.int .i64) (.list (.prod (.int .i64) (.int .i64))))))))⟩] [980] [1028, 1031] 1005 st
noncomputable def rlm_cok (st : Stt) : Bool := canAok [0, 2, 3, 6, 7, 11, 12, 13, 14, 15, 16, 17, 18, 19, 20, 21, 22, 23, 24, 25, 26, 27, 28, 29, 30, 31, 32, 33, 34, 35] [⟨980, some 5, 0, 0, 29, (.prod (.int .i64) (.prod (.int .i64) (.prod (.int .i64) (.prod (.int .i64) (.prod (.int .i64) (.list (.prod (.int .i64) (.int .i64))))))))⟩] [980] [1028, 1031] 1005 st
noncomputable def rlm_read (st : Stt) : Option (rlm_U × rlm_V) := rlm_rd (rlm_cok st && (staysA [⟨980, some 5, 0, 0, 29, (.prod (.int .i64) (.prod (.int .i64) (.prod (.int .i64) (.prod (.int .i64) (.prod (.int .i64) (.list (.prod (.int .i64) (.int .i64))))))))⟩] [980] st.own && juAll [0, 2, 3, 6, 7, 11, 12, 13, 14, 15, 16, 17, 18, 19, 20, 21, 22, 23, 24, 25, 26, 27, 28, 29, 30, 31, 32, 33, 34, 35] (rlm_can st).tm 36)) (rlm_can st).tm[1]? (rlm_can st).tm[4]? (rlm_can st).tm[5]? (rlm_can st).tm[8]? (rlm_can st).tm[9]? (rlm_can st).tm[10]? (rlm_can st).own
set_option maxRecDepth 100000 in
set_option maxHeartbeats 4000000 in
theorem rlm_rd_ok {b : Bool} {tm : List AV} {own : Own} {u : rlm_U} {v : rlm_V} (hj : b = true → juAll [0, 2, 3, 6, 7, 11, 12, 13, 14, 15, 16, 17, 18, 19, 20, 21, 22, 23, 24, 25, 26, 27, 28, 29, 30, 31, 32, 33, 34, 35] tm 36 = true) (h : rlm_rd b tm[1]? tm[4]? tm[5]? tm[8]? tm[9]? tm[10]? own = some (u, v)) : b = true ∧ tm = (rlm_St u v).tm ∧ own = (rlm_St u v).own := by
  unfold rlm_rd at h
  obtain ⟨rfl, h0⟩ := zrT_some h
  obtain ⟨za1, e1, h1⟩ := zrO_some h0
  obtain ⟨zc2, rfl, h2⟩ := zrA1_some h1
  obtain ⟨q0, rfl, h3⟩ := zrI_some h2
  obtain ⟨za3, e4, h4⟩ := zrO_some h3
  obtain ⟨zc4, rfl, h5⟩ := zrA1_some h4
  obtain ⟨rfl, h6⟩ := zrNil_some h5
  obtain ⟨za5, e5, h7⟩ := zrO_some h6
  obtain ⟨zc6, rfl, h8⟩ := zrA1_some h7
  obtain ⟨rfl, h9⟩ := zrSl_some h8
  obtain ⟨za7, e8, h10⟩ := zrO_some h9
  obtain ⟨zc8, rfl, h11⟩ := zrA1_some h10
  obtain ⟨q1, rfl, h12⟩ := zrD_some h11
  obtain ⟨za9, e9, h13⟩ := zrO_some h12
  obtain ⟨zc10, rfl, h14⟩ := zrA1_some h13
  obtain ⟨q2, rfl, h15⟩ := zrI_some h14
  obtain ⟨za11, e10, h16⟩ := zrO_some h15
  obtain ⟨zc12, rfl, h17⟩ := zrA1_some h16
  obtain ⟨q3, rfl, h18⟩ := zrI_some h17
  obtain ⟨zq13, zw14, rfl, h19⟩ := zrL_some h18
  obtain ⟨zk15, rfl, h20⟩ := zrKey_some h19
  obtain ⟨q4, rfl, h21⟩ := zrR_some h20
  obtain ⟨rfl, h22⟩ := zrN_some h21
  have h := Option.some.inj h22
  have hu := congrArg Prod.fst h
  have hv := congrArg Prod.snd h
  dsimp only at hu hv
  subst hu
  subst hv
  exact ⟨rfl, (tm_fill (hj rfl) (Lv := [(1, .one (.v false (.int .i64 q0))), (4, .one (.v false (Value.slice none (0 : Nat) (0 : Nat)))), (5, .one (.s false 980 0 (none))), (8, .one (.d false false (.prod (.int .i64) (.prod (.int .i64) (.prod (.int .i64) (.prod (.int .i64) (.prod (.int .i64) (.list (.prod (.int .i64) (.int .i64)))))))) q1)), (9, .one (.v false (.int .i64 q2))), (10, .one (.v false (.int .i64 q3)))]) (by kernel_rfl) ⟨e1, e4, e5, e8, e9, e10, trivial⟩).trans (by kernel_rfl), rfl⟩
theorem rlm_read_ok (st : Stt) (u : rlm_U) (v : rlm_V) (h : rlm_read st = some (u, v)) : rlm_cok st = true ∧ staysA [⟨980, some 5, 0, 0, 29, (.prod (.int .i64) (.prod (.int .i64) (.prod (.int .i64) (.prod (.int .i64) (.prod (.int .i64) (.list (.prod (.int .i64) (.int .i64))))))))⟩] [980] st.own = true ∧ rlm_can st = rlm_St u v := by
  obtain ⟨h1, h2, h3⟩ := rlm_rd_ok (fun hb => by rw [Bool.and_eq_true, Bool.and_eq_true] at hb; exact hb.2.2) h
  rw [Bool.and_eq_true, Bool.and_eq_true] at h1
  refine ⟨h1.1, h1.2.1, ?_⟩
  have e : rlm_can st = ⟨(rlm_can st).tm, (rlm_can st).own, 1005⟩ := by kernel_rfl
  rw [e, h2, h3]
  rfl
noncomputable def rlm_cond (u : rlm_U) (v : rlm_V) : Bool := runC (rlm_step u) v
noncomputable def rlm_g (u : rlm_U) (v : rlm_V) : Nat × rlm_V := runG (rlm_step u) v
theorem rlm_hg : ∀ (u : rlm_U) (v : rlm_V), rlm_cond u v = true → loopN (rlm_step u) ((fun u v => runF (rlm_step u) v) u v) v = some (rlm_g u v) := by
  exact fun u v h => run_hg h
noncomputable def rlm_m (st : Stt) : Option (Tr (Ex × Stt)) := sumM rlm_read rlm_cond rlm_St rlm_g [(0, .exit 0)] st
noncomputable def coD_L51 : FuncId → Loops := addL 25 [0, 1, 0, 1, 1] rlm_m coB_L53
set_option maxRecDepth 100000 in
set_option maxHeartbeats 4000000 in
theorem coD_L51_ok : LoopsOK Try.prog coD_L51 :=
  loop_sumF (body := (bodyOf Try.prog 25)) (c := (loopOf (bodyOf Try.prog 25) [1, 1, 0, 1, 0])) (kinds := [.exit 0]) (allow := [(0, .exit 0)]) (St := rlm_St) (step := rlm_step) (W := [0, 2, 3, 6, 7, 11, 12, 13, 14, 15, 16, 17, 18, 19, 20, 21, 22, 23, 24, 25, 26, 27, 28, 29, 30, 31, 32, 33, 34, 35]) (As := [⟨980, some 5, 0, 0, 29, (.prod (.int .i64) (.prod (.int .i64) (.prod (.int .i64) (.prod (.int .i64) (.prod (.int .i64) (.list (.prod (.int .i64) (.int .i64))))))))⟩]) (ks := [980]) (dd := [1028, 1031]) (nx := 1005) (n := 100000) (g := rlm_g) (cond := rlm_cond) (fuel := (fun u v => runF (rlm_step u) v)) (read := rlm_read) (by kernel_rfl) (coC_S55_ok) (coB_L53_ok) 7 ⟨Try.f25, by kernel_rfl, by kernel_rfl⟩ (by kernel_rfl) (by kernel_rfl) (by kernel_rfl) rlm_step_eq rlm_hg rlm_read_ok
theorem lmt_succ {v : Int} {L : List Opn} {j : Nat} (hj : j < L.length) : lmt v (L.take (j + 1)) = lmt v (L.take j) ++ [lmo v L[j]] := by
  unfold lmt
  rw [List.take_succ_eq_append_getElem hj, List.map_append]; rfl
theorem lmo_sp (v : Int) (o : Opn) : (bif bif o.1 == (3 : Int) then decide (oSp o > v) else false then (o.1, (o.2.1, (o.2.2.1, (o.2.2.2.1, (v, oCs o))))) else o) = lmo v o := by
  unfold lmo
  obtain ⟨a, b, c, d, s, cs⟩ := o
  cases hb : a == (3 : Int)
  · rfl
  · show (bif decide (s > v) then _ else _) = (a, b, c, d, min s v, cs)
    by_cases h : s > v
    · rw [decide_eq_true h, show min s v = v by omega]; rfl
    · rw [decide_eq_false h, show min s v = s by omega]; rfl
theorem rlm_run {L : List Opn} {v : Int} (h : lOk L = true) : rlm_cond (v, L, (L.length : Int)) (0, []) = true ∧ rlm_g (v, L, (L.length : Int)) (0, []) = (0, ((L.length : Int), lmt v L)) := by
  obtain ⟨hL, hc⟩ := lOk_iff.1 h
  have R := run_steps (step := rlm_step (v, L, (L.length : Int))) (St := fun j => ((j : Int), lmt v (L.take j))) (n := L.length) (t := (0, ((L.length : Int), lmt v L))) (by
    simp only [rlm_step, Tr.val, Int.lt_irrefl, decide_false, cond_false, List.take_length]) L.length 0 (Nat.zero_add _) (fun j _ hj => by
    have hcj := hc j hj
    have hl : (lmt v (L.take j)).length = j := by unfold lmt; rw [List.length_map, List.length_take]; omega
    obtain ⟨r1, r2⟩ := room64 (n := (lmt v (L.take j)).length + 1) (by omega)
    obtain ⟨r3, r4⟩ := room16 (n := (oCs L[j]).length) (by omega)
    have r3' : decide (List.length L[j].2.2.2.2.2 * 16 ≤ maxNew) = true := r3
    have r4' : decide (List.length L[j].2.2.2.2.2 ≤ maxLen) = true := r4
    rw [lmt_succ hj, ← lmo_sp v L[j]]
    simp only [rlm_step, Tr.val, lt_t hj, nn_t, el_o hj, r1, r2, r3', r4', wi1 hj (show (L.length : Int) ≤ 9223372036854775806 by omega), Nat.zero_add, Bool.and_self, cond_true]
    have ht : (bif L[j].1 == (3 : Int) then decide (L[j].2.2.2.2.1 > v) else false) = (bif L[j].1 == (3 : Int) then decide (oSp L[j] > v) else false) := rfl
    rw [ht]
    cases (bif L[j].1 == (3 : Int) then decide (oSp L[j] > v) else false) <;> rfl)
  exact R
set_option maxRecDepth 100000 in
theorem rlc_tree (L : (Ty.list (.prod (.int .i64) (.prod (.int .i64) (.prod (.int .i64) (.prod (.int .i64) (.prod (.int .i64) (.list (.prod (.int .i64) (.int .i64))))))))).den) (v : Int) : evalF Try.prog coC_S55 (opens []) coD_L51 9 25 [.one (.d false false (.prod (.int .i64) (.prod (.int .i64) (.prod (.int .i64) (.prod (.int .i64) (.prod (.int .i64) (.list (.prod (.int .i64) (.int .i64)))))))) L), .one (.v false (.int .i64 v))] = .br (((rlm_cond (v, L, (↑(List.length L) : Int)) ((0 : Int), [])) && (Nat.beq (Prod.fst (rlm_g (v, L, (↑(List.length L) : Int)) ((0 : Int), []))) (0 : Nat)))) (.ret (.one (.d false false (.prod (.int .i64) (.prod (.int .i64) (.prod (.int .i64) (.prod (.int .i64) (.prod (.int .i64) (.list (.prod (.int .i64) (.int .i64)))))))) (Prod.snd (Prod.snd (rlm_g (v, L, (↑(List.length L) : Int)) ((0 : Int), []))))))) (.bad 116) := by kernel_rfl
theorem rlc_val (L : (Ty.list (.prod (.int .i64) (.prod (.int .i64) (.prod (.int .i64) (.prod (.int .i64) (.prod (.int .i64) (.list (.prod (.int .i64) (.int .i64))))))))).den) (v : Int) (hc : (lOk L) = true) : (.br (((rlm_cond (v, L, (↑(List.length L) : Int)) ((0 : Int), [])) && (Nat.beq (Prod.fst (rlm_g (v, L, (↑(List.length L) : Int)) ((0 : Int), []))) (0 : Nat)))) (.ret (.one (.d false false (.prod (.int .i64) (.prod (.int .i64) (.prod (.int .i64) (.prod (.int .i64) (.prod (.int .i64) (.list (.prod (.int .i64) (.int .i64)))))))) (Prod.snd (Prod.snd (rlm_g (v, L, (↑(List.length L) : Int)) ((0 : Int), []))))))) (.bad 116) : Tr AV).val = some (.one (.d false false (.prod (.int .i64) (.prod (.int .i64) (.prod (.int .i64) (.prod (.int .i64) (.prod (.int .i64) (.list (.prod (.int .i64) (.int .i64)))))))) (lmt v L))) := by
  obtain ⟨v1, v2⟩ := rlm_run (v := v) hc
  show cond _ _ _ = _
  simp only [v1, v2, Nat.beq, Bool.and_self, cond_true, Tr.val]
noncomputable def rlc_g : List AV → Option (Tr AV)
  | [.one (.d _ _ (.prod (.int .i64) (.prod (.int .i64) (.prod (.int .i64) (.prod (.int .i64) (.prod (.int .i64) (.list (.prod (.int .i64) (.int .i64)))))))) L), .one (.v _ (.int .i64 v))] => some (.br (lOk L) (.ret (.one (.d false false (.prod (.int .i64) (.prod (.int .i64) (.prod (.int .i64) (.prod (.int .i64) (.prod (.int .i64) (.list (.prod (.int .i64) (.int .i64)))))))) (lmt v L)))) (.bad 900))
  | _ => none
set_option maxHeartbeats 4000000 in
theorem rlc_ok : FunOK Try.prog 25 rlc_g := by
  refine fun_ok (by kernel_rfl) (coC_S55_ok) (coD_L51_ok) 9 (On := (opens [])) (fun args t h => ?_)
  unfold rlc_g at h
  split at h
  · rename_i _ _ L _ v
    simp only [Option.some.injEq] at h
    subst h
    refine ⟨[.one (.d false false (.prod (.int .i64) (.prod (.int .i64) (.prod (.int .i64) (.prod (.int .i64) (.prod (.int .i64) (.list (.prod (.int .i64) (.int .i64)))))))) L), .one (.v false (.int .i64 v))], rfl, fun fr w us h => h, fun r hr => ?_⟩
    obtain ⟨hc, hr⟩ := br_bad hr
    simp only [Tr.val, Option.some.injEq] at hr
    subst hr
    rw [rlc_tree]
    exact rlc_val L v hc
  · cases h
noncomputable def coD_S52 : Sums := addS 25 rlc_g coC_S55
theorem coD_S52_ok : SumOK Try.prog coD_S52 := addS_ok (rlc_ok) (coC_S55_ok)
abbrev rsl_U : Type := (Ty.list (.prod (.int .i64) (.prod (.int .i64) (.prod (.int .i64) (.prod (.int .i64) (.prod (.int .i64) (.list (.prod (.int .i64) (.int .i64))))))))).den × Int × Int × Int × Int × Int × Int × Int × Bool × Int × Int × Int × Int × Int × Int × Int × Int × Int × Int × Int × Int
abbrev rsl_V : Type := Int × Int
noncomputable def rsl_St (u : rsl_U) (v : rsl_V) : Stt := ⟨[.one (.d false false (.prod (.int .i64) (.prod (.int .i64) (.prod (.int .i64) (.prod (.int .i64) (.prod (.int .i64) (.list (.prod (.int .i64) (.int .i64)))))))) u.1), .one .junk, .one .junk, .one (.p 0 0), .one (.v false (Value.slice none (0 : Nat) (0 : Nat))), .one (.v false (.int .i64 v.1)), .one (.v false (.int .i64 v.2)), .one .junk, .one .junk, .one .junk, .one .junk, .one .junk, .one .junk, .one .junk, .one .junk, .one .junk, .one .junk, .one .junk, .one .junk, .one .junk, .one .junk, .one .junk, .one .junk, .one .junk, .one .junk, .one .junk, .one .junk, .one .junk, .one .junk, .one .junk, .one .junk, .one .junk, .one .junk, .one .junk, .one .junk, .one .junk, .one .junk, .one .junk, .one .junk, .one .junk], [(0, .cells [.v false (.int .i64 u.2.1), .v false (.int .i64 u.2.2.1), .v false (.int .i64 u.2.2.2.1), .v false (.int .i64 u.2.2.2.2.1), .v false (.int .i64 u.2.2.2.2.2.1), .v false (.int .i64 u.2.2.2.2.2.2.1), .v false (.int .i64 u.2.2.2.2.2.2.2.1), .v false (.bool u.2.2.2.2.2.2.2.2.1), .v false (.int .i64 u.2.2.2.2.2.2.2.2.2.1), .v false (.int .i64 u.2.2.2.2.2.2.2.2.2.2.1), .v false (.int .i64 u.2.2.2.2.2.2.2.2.2.2.2.1), .v false (.int .i64 u.2.2.2.2.2.2.2.2.2.2.2.2.1), .v false (.int .i64 u.2.2.2.2.2.2.2.2.2.2.2.2.2.1), .v false (.int .i64 u.2.2.2.2.2.2.2.2.2.2.2.2.2.2.1), .v false (.int .i64 u.2.2.2.2.2.2.2.2.2.2.2.2.2.2.2.1), .v false (.int .i64 u.2.2.2.2.2.2.2.2.2.2.2.2.2.2.2.2.1), .v false (.int .i64 u.2.2.2.2.2.2.2.2.2.2.2.2.2.2.2.2.2.1), .v false (.int .i64 u.2.2.2.2.2.2.2.2.2.2.2.2.2.2.2.2.2.2.1), .v false (.int .i64 u.2.2.2.2.2.2.2.2.2.2.2.2.2.2.2.2.2.2.2.1), .v false (.int .i64 u.2.2.2.2.2.2.2.2.2.2.2.2.2.2.2.2.2.2.2.2)])], 1012⟩
noncomputable def rsl_step (u : rsl_U) (v : rsl_V) : Tr (rsl_V ⊕ (Nat × rsl_V)) :=
  match u, v with
  | (q0, _, _, _, _, _, _, _, _, _, _, _, _, _, _, _, _, q19, _, _, _), (q1, q2) => .br (decide (q1 < q2)) (.br (lOk q0) (.br (lOk (lmt (IntKind.wrap IntKind.i64 (Int.tdiv (IntKind.wrap IntKind.i64 (IntKind.wrap IntKind.i64 (q1 + q2) + (1 : Int))) (2 : Int))) q0)) (.br (decide (tmL (lmt (IntKind.wrap IntKind.i64 (Int.tdiv (IntKind.wrap IntKind.i64 (IntKind.wrap IntKind.i64 (q1 + q2) + (1 : Int))) (2 : Int))) q0) ≥ q19)) (.ret (.inl (IntKind.wrap IntKind.i64 (Int.tdiv (IntKind.wrap IntKind.i64 (IntKind.wrap IntKind.i64 (q1 + q2) + (1 : Int))) (2 : Int)), q2))) (.ret (.inl (q1, IntKind.wrap IntKind.i64 (IntKind.wrap IntKind.i64 (Int.tdiv (IntKind.wrap IntKind.i64 (IntKind.wrap IntKind.i64 (q1 + q2) + (1 : Int))) (2 : Int)) - (1 : Int)))))) (.bad 900)) (.bad 900)) (.ret (.inr (0, (q1, q2))))
set_option maxRecDepth 100000 in
set_option maxHeartbeats 4000000 in
theorem rsl_step_eq : ∀ (u : rsl_U) (v : rsl_V), (evalC Try.prog (evalB Try.prog coD_S52 (opens []) coD_L51 7).1 (evalB Try.prog coD_S52 (opens []) coD_L51 7).2 (opens []) (coD_L51 22) 100000 (0 :: [0, 0, 1, 1, 1]) (loopOf (bodyOf Try.prog 22) [1, 1, 1, 0, 0]) (rsl_St u v) []).bind (finF [1, 2, 7, 8, 9, 10, 11, 12, 13, 14, 15, 16, 17, 18, 19, 20, 21, 22, 23, 24, 25, 26, 27, 28, 29, 30, 31, 32, 33, 34, 35, 36, 37, 38, 39] [] [0] [] 1012) = (rsl_step u v).bind (outA (rsl_St u) [.exit 0]) := by
  rintro ⟨q0, q3, q4, q5, q6, q7, q8, q9, q10, q11, q12, q13, q14, q15, q16, q17, q18, q19, q20, q21, q22⟩ ⟨q1, q2⟩
  kernel_rfl
noncomputable def rsl_rd (b : Bool) (o0 : Option AV) (o3 : Option AV) (o4 : Option AV) (o5 : Option AV) (o6 : Option AV) (own : Own) : Option (rsl_U × rsl_V) := zrT b <| zrO o0 fun za1 => zrA1 za1 fun zc2 => zrD (.prod (.int .i64) (.prod (.int .i64) (.prod (.int .i64) (.prod (.int .i64) (.prod (.int .i64) (.list (.prod (.int .i64) (.int .i64)))))))) zc2 fun q0 => zrO o3 fun za3 => zrA1 za3 fun zc4 => zrP 0 0 zc4 <| zrO o4 fun za5 => zrA1 za5 fun zc6 => zrNil zc6 <| zrO o5 fun za7 => zrA1 za7 fun zc8 => zrI .i64 zc8 fun q1 => zrO o6 fun za9 => zrA1 za9 fun zc10 => zrI .i64 zc10 fun q2 => zrL own fun zq11 zw12 => zrKey 0 zq11 fun zk13 => zrC zk13 fun zl14 => zrL zl14 fun zc15 zr16 => zrI .i64 zc15 fun q3 => zrL zr16 fun zc17 zr18 => zrI .i64 zc17 fun q4 => zrL zr18 fun zc19 zr20 => zrI .i64 zc19 fun q5 => zrL zr20 fun zc21 zr22 => zrI .i64 zc21 fun q6 => zrL zr22 fun zc23 zr24 => zrI .i64 zc23 fun q7 => zrL zr24 fun zc25 zr26 => zrI .i64 zc25 fun q8 => zrL zr26 fun zc27 zr28 => zrI .i64 zc27 fun q9 => zrL zr28 fun zc29 zr30 => zrB zc29 fun q10 => zrL zr30 fun zc31 zr32 => zrI .i64 zc31 fun q11 => zrL zr32 fun zc33 zr34 => zrI .i64 zc33 fun q12 => zrL zr34 fun zc35 zr36 => zrI .i64 zc35 fun q13 => zrL zr36 fun zc37 zr38 => zrI .i64 zc37 fun q14 => zrL zr38 fun zc39 zr40 => zrI .i64 zc39 fun q15 => zrL zr40 fun zc41 zr42 => zrI .i64 zc41 fun q16 => zrL zr42 fun zc43 zr44 => zrI .i64 zc43 fun q17 => zrL zr44 fun zc45 zr46 => zrI .i64 zc45 fun q18 => zrL zr46 fun zc47 zr48 => zrI .i64 zc47 fun q19 => zrL zr48 fun zc49 zr50 => zrI .i64 zc49 fun q20 => zrL zr50 fun zc51 zr52 => zrI .i64 zc51 fun q21 => zrL zr52 fun zc53 zr54 => zrI .i64 zc53 fun q22 => zrN zr54 <| zrN zw12 <| some ((q0, q3, q4, q5, q6, q7, q8, q9, q10, q11, q12, q13, q14, q15, q16, q17, q18, q19, q20, q21, q22), (q1, q2))
noncomputable def rsl_can (st : Stt) : Stt := canA [1, 2, 7, 8, 9, 10, 11, 12, 13, 14, 15, 16, 17, 18, 19, 20, 21, 22, 23, 24, 25, 26, 27, 28, 29, 30, 31, 32, 33, 34, 35, 36, 37, 38, 39] [] [0] [] 1012 st
noncomputable def rsl_cok (st : Stt) : Bool := canAok [1, 2, 7, 8, 9, 10, 11, 12, 13, 14, 15, 16, 17, 18, 19, 20, 21, 22, 23, 24, 25, 26, 27, 28, 29, 30, 31, 32, 33, 34, 35, 36, 37, 38, 39] [] [0] [] 1012 st
noncomputable def rsl_read (st : Stt) : Option (rsl_U × rsl_V) := rsl_rd (rsl_cok st && (staysA [] [0] st.own && juAll [1, 2, 7, 8, 9, 10, 11, 12, 13, 14, 15, 16, 17, 18, 19, 20, 21, 22, 23, 24, 25, 26, 27, 28, 29, 30, 31, 32, 33, 34, 35, 36, 37, 38, 39] (rsl_can st).tm 40)) (rsl_can st).tm[0]? (rsl_can st).tm[3]? (rsl_can st).tm[4]? (rsl_can st).tm[5]? (rsl_can st).tm[6]? (rsl_can st).own
set_option maxRecDepth 100000 in
set_option maxHeartbeats 4000000 in
theorem rsl_rd_ok {b : Bool} {tm : List AV} {own : Own} {u : rsl_U} {v : rsl_V} (hj : b = true → juAll [1, 2, 7, 8, 9, 10, 11, 12, 13, 14, 15, 16, 17, 18, 19, 20, 21, 22, 23, 24, 25, 26, 27, 28, 29, 30, 31, 32, 33, 34, 35, 36, 37, 38, 39] tm 40 = true) (h : rsl_rd b tm[0]? tm[3]? tm[4]? tm[5]? tm[6]? own = some (u, v)) : b = true ∧ tm = (rsl_St u v).tm ∧ own = (rsl_St u v).own := by
  unfold rsl_rd at h
  obtain ⟨rfl, h0⟩ := zrT_some h
  obtain ⟨za1, e0, h1⟩ := zrO_some h0
  obtain ⟨zc2, rfl, h2⟩ := zrA1_some h1
  obtain ⟨q0, rfl, h3⟩ := zrD_some h2
  obtain ⟨za3, e3, h4⟩ := zrO_some h3
  obtain ⟨zc4, rfl, h5⟩ := zrA1_some h4
  obtain ⟨rfl, h6⟩ := zrP_some h5
  obtain ⟨za5, e4, h7⟩ := zrO_some h6
  obtain ⟨zc6, rfl, h8⟩ := zrA1_some h7
  obtain ⟨rfl, h9⟩ := zrNil_some h8
  obtain ⟨za7, e5, h10⟩ := zrO_some h9
  obtain ⟨zc8, rfl, h11⟩ := zrA1_some h10
  obtain ⟨q1, rfl, h12⟩ := zrI_some h11
  obtain ⟨za9, e6, h13⟩ := zrO_some h12
  obtain ⟨zc10, rfl, h14⟩ := zrA1_some h13
  obtain ⟨q2, rfl, h15⟩ := zrI_some h14
  obtain ⟨zq11, zw12, rfl, h16⟩ := zrL_some h15
  obtain ⟨zk13, rfl, h17⟩ := zrKey_some h16
  obtain ⟨zl14, rfl, h18⟩ := zrC_some h17
  obtain ⟨zc15, zr16, rfl, h19⟩ := zrL_some h18
  obtain ⟨q3, rfl, h20⟩ := zrI_some h19
  obtain ⟨zc17, zr18, rfl, h21⟩ := zrL_some h20
  obtain ⟨q4, rfl, h22⟩ := zrI_some h21
  obtain ⟨zc19, zr20, rfl, h23⟩ := zrL_some h22
  obtain ⟨q5, rfl, h24⟩ := zrI_some h23
  obtain ⟨zc21, zr22, rfl, h25⟩ := zrL_some h24
  obtain ⟨q6, rfl, h26⟩ := zrI_some h25
  obtain ⟨zc23, zr24, rfl, h27⟩ := zrL_some h26
  obtain ⟨q7, rfl, h28⟩ := zrI_some h27
  obtain ⟨zc25, zr26, rfl, h29⟩ := zrL_some h28
  obtain ⟨q8, rfl, h30⟩ := zrI_some h29
  obtain ⟨zc27, zr28, rfl, h31⟩ := zrL_some h30
  obtain ⟨q9, rfl, h32⟩ := zrI_some h31
  obtain ⟨zc29, zr30, rfl, h33⟩ := zrL_some h32
  obtain ⟨q10, rfl, h34⟩ := zrB_some h33
  obtain ⟨zc31, zr32, rfl, h35⟩ := zrL_some h34
  obtain ⟨q11, rfl, h36⟩ := zrI_some h35
  obtain ⟨zc33, zr34, rfl, h37⟩ := zrL_some h36
  obtain ⟨q12, rfl, h38⟩ := zrI_some h37
  obtain ⟨zc35, zr36, rfl, h39⟩ := zrL_some h38
  obtain ⟨q13, rfl, h40⟩ := zrI_some h39
  obtain ⟨zc37, zr38, rfl, h41⟩ := zrL_some h40
  obtain ⟨q14, rfl, h42⟩ := zrI_some h41
  obtain ⟨zc39, zr40, rfl, h43⟩ := zrL_some h42
  obtain ⟨q15, rfl, h44⟩ := zrI_some h43
  obtain ⟨zc41, zr42, rfl, h45⟩ := zrL_some h44
  obtain ⟨q16, rfl, h46⟩ := zrI_some h45
  obtain ⟨zc43, zr44, rfl, h47⟩ := zrL_some h46
  obtain ⟨q17, rfl, h48⟩ := zrI_some h47
  obtain ⟨zc45, zr46, rfl, h49⟩ := zrL_some h48
  obtain ⟨q18, rfl, h50⟩ := zrI_some h49
  obtain ⟨zc47, zr48, rfl, h51⟩ := zrL_some h50
  obtain ⟨q19, rfl, h52⟩ := zrI_some h51
  obtain ⟨zc49, zr50, rfl, h53⟩ := zrL_some h52
  obtain ⟨q20, rfl, h54⟩ := zrI_some h53
  obtain ⟨zc51, zr52, rfl, h55⟩ := zrL_some h54
  obtain ⟨q21, rfl, h56⟩ := zrI_some h55
  obtain ⟨zc53, zr54, rfl, h57⟩ := zrL_some h56
  obtain ⟨q22, rfl, h58⟩ := zrI_some h57
  obtain ⟨rfl, h59⟩ := zrN_some h58
  obtain ⟨rfl, h60⟩ := zrN_some h59
  have h := Option.some.inj h60
  have hu := congrArg Prod.fst h
  have hv := congrArg Prod.snd h
  dsimp only at hu hv
  subst hu
  subst hv
  exact ⟨rfl, (tm_fill (hj rfl) (Lv := [(0, .one (.d false false (.prod (.int .i64) (.prod (.int .i64) (.prod (.int .i64) (.prod (.int .i64) (.prod (.int .i64) (.list (.prod (.int .i64) (.int .i64)))))))) q0)), (3, .one (.p 0 0)), (4, .one (.v false (Value.slice none (0 : Nat) (0 : Nat)))), (5, .one (.v false (.int .i64 q1))), (6, .one (.v false (.int .i64 q2)))]) (by kernel_rfl) ⟨e0, e3, e4, e5, e6, trivial⟩).trans (by kernel_rfl), rfl⟩
theorem rsl_read_ok (st : Stt) (u : rsl_U) (v : rsl_V) (h : rsl_read st = some (u, v)) : rsl_cok st = true ∧ staysA [] [0] st.own = true ∧ rsl_can st = rsl_St u v := by
  obtain ⟨h1, h2, h3⟩ := rsl_rd_ok (fun hb => by rw [Bool.and_eq_true, Bool.and_eq_true] at hb; exact hb.2.2) h
  rw [Bool.and_eq_true, Bool.and_eq_true] at h1
  refine ⟨h1.1, h1.2.1, ?_⟩
  have e : rsl_can st = ⟨(rsl_can st).tm, (rsl_can st).own, 1012⟩ := by kernel_rfl
  rw [e, h2, h3]
  rfl
noncomputable def rsl_cond (u : rsl_U) (v : rsl_V) : Bool := runC (rsl_step u) v
noncomputable def rsl_g (u : rsl_U) (v : rsl_V) : Nat × rsl_V := runG (rsl_step u) v
theorem rsl_hg : ∀ (u : rsl_U) (v : rsl_V), rsl_cond u v = true → loopN (rsl_step u) ((fun u v => runF (rsl_step u) v) u v) v = some (rsl_g u v) := by
  exact fun u v h => run_hg h
noncomputable def rsl_m (st : Stt) : Option (Tr (Ex × Stt)) := sumM rsl_read rsl_cond rsl_St rsl_g [(0, .exit 0)] st
noncomputable def coD_L53 : FuncId → Loops := addL 22 [0, 0, 1, 1, 1] rsl_m coD_L51
set_option maxRecDepth 100000 in
set_option maxHeartbeats 4000000 in
theorem coD_L53_ok : LoopsOK Try.prog coD_L53 :=
  loop_sumF (body := (bodyOf Try.prog 22)) (c := (loopOf (bodyOf Try.prog 22) [1, 1, 1, 0, 0])) (kinds := [.exit 0]) (allow := [(0, .exit 0)]) (St := rsl_St) (step := rsl_step) (W := [1, 2, 7, 8, 9, 10, 11, 12, 13, 14, 15, 16, 17, 18, 19, 20, 21, 22, 23, 24, 25, 26, 27, 28, 29, 30, 31, 32, 33, 34, 35, 36, 37, 38, 39]) (As := []) (ks := [0]) (dd := []) (nx := 1012) (n := 100000) (g := rsl_g) (cond := rsl_cond) (fuel := (fun u v => runF (rsl_step u) v)) (read := rsl_read) (by kernel_rfl) (coD_S52_ok) (coD_L51_ok) 7 ⟨Try.f22, by kernel_rfl, by kernel_rfl⟩ (by kernel_rfl) (by kernel_rfl) (by kernel_rfl) rsl_step_eq rsl_hg rsl_read_ok
noncomputable def rsV (L : List Opn) (pi he wa tp bo pa sp : Int) (su : Bool) (re ga br sk dr fe tr rt mt mf nz bd : Int) : Int := (rsl_g (L, pi, he, wa, tp, bo, pa, sp, su, re, ga, br, sk, dr, fe, tr, rt, mt, mf, nz, bd) (slw mf pi, slw fe pi)).2.1
theorem cei_ge {a s : Int} (_ : 0 ≤ a) (hs : 0 < s) : a ≤ cei a s * s := by
  have h := Int.mul_ediv_add_emod a s
  have h2 := Int.emod_lt_of_pos a hs
  unfold cei
  split
  · rw [Int.mul_comm]; omega
  · rw [Int.add_mul, Int.mul_comm (a / s)]; omega
theorem cei_le {a s k : Int} (hs : 0 < s) (h : a ≤ k * s) : cei a s ≤ k := by
  unfold cei
  split
  · exact Int.ediv_le_of_le_mul hs h
  · rename_i hr
    have : a < k * s := by
      rcases Int.lt_or_eq_of_le h with g | g
      · exact g
      · exact absurd (by rw [g]; exact Int.mul_emod_left k s) hr
    have := Int.ediv_lt_of_lt_mul hs this
    omega
theorem cei_anti {a s t : Int} (ha : 0 ≤ a) (hs : 0 < s) (h : s ≤ t) : cei a t ≤ cei a s := by
  refine cei_le (by omega) ?_
  have h1 := cei_ge ha hs
  have h2 := (cei_nn ha hs).1
  have := Int.mul_le_mul_of_nonneg_left h h2
  omega
theorem opT_anti {v : Int} (hv : 1 ≤ v) (o : Opn) : opT (lmo (v + 1) o) ≤ opT (lmo v o) := by
  obtain ⟨a, b, c, d, s, cs⟩ := o
  unfold lmo
  cases hb : a == (3 : Int)
  · exact Int.le_refl _
  · show opT (a, b, c, d, min s (v + 1), cs) ≤ opT (a, b, c, d, min s v, cs)
    unfold opT oTm oSp oCs
    dsimp only
    rw [hb]
    by_cases h : s ≤ 0
    · rw [show min s (v + 1) = s by omega, show min s v = s by omega]
      exact Int.le_refl _
    · have e : (bif a == (2 : Int) then true else true) = true := by cases a == (2 : Int) <;> rfl
      rw [e, decide_eq_true (show min s (v + 1) > 0 by omega), decide_eq_true (show min s v > 0 by omega)]
      exact cei_anti (by omega) (by omega) (by omega)
theorem tmL_anti {v : Int} (hv : 1 ≤ v) : ∀ L : List Opn, tmL (lmt (v + 1) L) ≤ tmL (lmt v L)
  | [] => Int.le_refl _
  | o :: L => by
    have h1 := opT_anti hv o
    have h2 := tmL_anti hv L
    unfold tmL lmt at *
    simp only [List.map_cons, List.sum_cons]
    omega
theorem eno_anti {L : List Opn} {mt v : Int} (hv : 1 ≤ v) (h : eno L mt (v + 1) = true) : eno L mt v = true := by
  have := tmL_anti hv L
  unfold eno at *
  simp at *
  omega
theorem eno_down {L : List Opn} {mt v : Int} (hv : 1 ≤ v) : ∀ k : Nat, eno L mt (v + k) = true → eno L mt v = true
  | 0, h => by simpa using h
  | k + 1, h => eno_down hv k (eno_anti (by omega) (by rw [show v + (k : Int) + 1 = v + ((k + 1 : Nat) : Int) by push_cast; omega]; exact h))
/-- The speed to which a layer is slowed. -/
def isSp (L : List Opn) (mt lo hi v : Int) : Prop := lo ≤ v ∧ v ≤ hi ∧ (v = lo ∨ eno L mt v = true) ∧ (v = hi ∨ eno L mt (v + 1) = false)
theorem isSp_le {L : List Opn} {mt lo hi v w : Int} (h1 : 1 ≤ lo) (h : isSp L mt lo hi v) (g : isSp L mt lo hi w) : v ≤ w := by
  obtain ⟨a, b, c, d⟩ := h
  obtain ⟨a', b', c', d'⟩ := g
  rcases Int.lt_or_le w v with hlt | hle
  · exfalso
    have hv : eno L mt v = true := by
      rcases c with c | c
      · omega
      · exact c
    have hw : eno L mt (w + 1) = false := by
      rcases d' with d' | d'
      · omega
      · exact d'
    have := eno_down (L := L) (mt := mt) (v := w + 1) (by omega) (v - (w + 1)).toNat (by rw [show w + 1 + ((v - (w + 1)).toNat : Int) = v by omega]; exact hv)
    rw [hw] at this; cases this
  · exact hle
theorem isSp_one {L : List Opn} {mt lo hi v w : Int} (h1 : 1 ≤ lo) (h : isSp L mt lo hi v) (g : isSp L mt lo hi w) : v = w := by
  have := isSp_le h1 h g
  have := isSp_le h1 g h
  omega
set_option maxHeartbeats 4000000 in
theorem rsl_run {L : List Opn} (hL : lOk L = true) {lo hi : Int} (pi he wa tp bo pa sp re ga br sk dr fe tr rt mt mf nz bd : Int) (su : Bool) (h0 : 1 ≤ lo) (hl : lo ≤ hi) (hh : hi ≤ 1048576) :
    rsl_cond (L, pi, he, wa, tp, bo, pa, sp, su, re, ga, br, sk, dr, fe, tr, rt, mt, mf, nz, bd) (lo, hi) = true ∧ (rsl_g (L, pi, he, wa, tp, bo, pa, sp, su, re, ga, br, sk, dr, fe, tr, rt, mt, mf, nz, bd) (lo, hi)).1 = 0 ∧ isSp L mt lo hi (rsl_g (L, pi, he, wa, tp, bo, pa, sp, su, re, ga, br, sk, dr, fe, tr, rt, mt, mf, nz, bd) (lo, hi)).2.1 := by
  refine run_val (step := rsl_step (L, pi, he, wa, tp, bo, pa, sp, su, re, ga, br, sk, dr, fe, tr, rt, mt, mf, nz, bd)) (Inv := fun v => ∃ i j : Int, v = (i, j) ∧ lo ≤ i ∧ i ≤ j ∧ j ≤ hi ∧ (i = lo ∨ eno L mt i = true) ∧ (j = hi ∨ eno L mt (j + 1) = false)) (μ := fun v => (v.2 - v.1).toNat) (Q := fun t => t.1 = 0 ∧ isSp L mt lo hi t.2.1) ?_ _ _ (Nat.lt_succ_self _) ⟨lo, hi, rfl, by omega, hl, Int.le_refl _, .inl rfl, .inl rfl⟩
  rintro v ⟨i, j, rfl, i0, ij, jn, hi', hj⟩
  by_cases hlt : i < j
  · have c1 : decide (i < j) = true := decide_eq_true hlt
    have w1 : IntKind.wrap IntKind.i64 (i + j) = i + j := wid (by omega) (by omega)
    have w2 : IntKind.wrap IntKind.i64 (i + j + 1) = i + j + 1 := wid (by omega) (by omega)
    have td : Int.tdiv (i + j + 1) 2 = (i + j + 1) / 2 := Int.tdiv_eq_ediv_of_nonneg (by omega)
    have w3 : IntKind.wrap IntKind.i64 ((i + j + 1) / 2) = (i + j + 1) / 2 := wid (by omega) (by omega)
    have w4 : IntKind.wrap IntKind.i64 ((i + j + 1) / 2 - 1) = (i + j + 1) / 2 - 1 := wid (by omega) (by omega)
    have c3 : lOk (lmt ((i + j + 1) / 2) L) = true := lmt_ok hL
    have he : decide (tmL (lmt ((i + j + 1) / 2) L) ≥ mt) = eno L mt ((i + j + 1) / 2) := by
      unfold eno
      rw [Bool.eq_iff_iff]; simp
    cases hb : eno L mt ((i + j + 1) / 2)
    · refine ⟨.inl (i, (i + j + 1) / 2 - 1), ?_, ⟨i, (i + j + 1) / 2 - 1, rfl, i0, by omega, by omega, hi', .inr (by rw [show (i + j + 1) / 2 - 1 + 1 = (i + j + 1) / 2 by omega]; exact hb)⟩, by show ((i + j + 1) / 2 - 1 - i).toNat < (j - i).toNat; omega⟩
      rw [← he] at hb
      simp only [rsl_step, Tr.val, c1, hL, w1, w2, td, w3, w4, c3, hb, cond_true, cond_false]
    · refine ⟨.inl ((i + j + 1) / 2, j), ?_, ⟨(i + j + 1) / 2, j, rfl, by omega, by omega, jn, .inr hb, hj⟩, by show (j - (i + j + 1) / 2).toNat < (j - i).toNat; omega⟩
      rw [← he] at hb
      simp only [rsl_step, Tr.val, c1, hL, w1, w2, td, w3, c3, hb, cond_true]
  · have e : i = j := by omega
    subst e
    have c1 : decide (i < i) = false := decide_eq_false hlt
    exact ⟨.inr (0, (i, i)), by simp only [rsl_step, Tr.val, c1, cond_false], rfl, i0, jn, hi', hj⟩
theorem sp_same {L : List Opn} (hL : lOk L = true) (pi he wa tp bo pa sp re ga br sk dr fe tr rt mt mf nz bd : Int) (su : Bool) (hs : sv pi he wa tp bo pa sp su re ga br sk dr fe tr rt mt mf nz bd = true) : spV L pi he wa tp bo pa sp su re ga br sk dr fe tr rt mt mf nz bd = rsV L pi he wa tp bo pa sp su re ga br sk dr fe tr rt mt mf nz bd := by
  obtain ⟨p, f, g⟩ := sv_sp hs
  obtain ⟨w1, a1, a2⟩ := slw_in p.1 g.1 (by omega)
  obtain ⟨w2, b1, b2⟩ := slw_in p.1 f.1 f.2
  have mo := slw_mono p.1 g.1 g.2
  obtain ⟨_, _, r, r3, r4, r5, r6, r7⟩ := sea_run hL (z := 0) (sl := slw mf pi) (n := slw fe pi - slw mf pi + 1) pi he wa tp bo pa sp re ga br sk dr fe tr rt mt mf nz bd su (by omega) (by omega) ⟨a1, a2⟩
  obtain ⟨_, _, q3⟩ := rsl_run hL (lo := slw mf pi) (hi := slw fe pi) pi he wa tp bo pa sp re ga br sk dr fe tr rt mt mf nz bd su a1 mo b2
  have e4 : spV L pi he wa tp bo pa sp su re ga br sk dr fe tr rt mt mf nz bd = max (slw mf pi) (slw mf pi + r - 1) := by unfold spV seaR; rw [r3]
  refine isSp_one a1 (lo := slw mf pi) (hi := slw fe pi) (L := L) (mt := mt) ?_ q3
  rw [e4]
  by_cases hr : r = 0
  · subst hr
    have e : max (slw mf pi) (slw mf pi + 0 - 1) = slw mf pi := by omega
    rw [e]
    refine ⟨Int.le_refl _, mo, .inl rfl, ?_⟩
    rcases r7 with r7 | r7
    · omega
    · refine .inr ?_
      rw [Int.add_zero] at r7
      cases hx : eno L mt (slw mf pi + 1)
      · rfl
      · rw [eno_anti a1 hx] at r7; cases r7
  · have e : max (slw mf pi) (slw mf pi + r - 1) = slw mf pi + r - 1 := by omega
    rw [e]
    refine ⟨by omega, by omega, .inr ?_, ?_⟩
    · rcases r6 with r6 | r6
      · exact absurd r6 hr
      · rw [show slw mf pi + r - 1 = slw mf pi + (r - 1) by omega]; exact r6
    · rcases r7 with r7 | r7
      · exact .inl (by omega)
      · exact .inr (by rw [show slw mf pi + r - 1 + 1 = slw mf pi + r by omega]; exact r7)
set_option maxRecDepth 100000 in
theorem rslc_tree (L : (Ty.list (.prod (.int .i64) (.prod (.int .i64) (.prod (.int .i64) (.prod (.int .i64) (.prod (.int .i64) (.list (.prod (.int .i64) (.int .i64))))))))).den) (pi : Int) (he : Int) (wa : Int) (tp : Int) (bo : Int) (pa : Int) (sp : Int) (su : Bool) (re : Int) (ga : Int) (br : Int) (sk : Int) (dr : Int) (fe : Int) (tr : Int) (rt : Int) (mt : Int) (mf : Int) (nz : Int) (bd : Int) : evalF Try.prog coD_S52 (opens []) coD_L53 9 22 [.one (.d false false (.prod (.int .i64) (.prod (.int .i64) (.prod (.int .i64) (.prod (.int .i64) (.prod (.int .i64) (.list (.prod (.int .i64) (.int .i64)))))))) L), .ag [.v false (.int .i64 pi), .v false (.int .i64 he), .v false (.int .i64 wa), .v false (.int .i64 tp), .v false (.int .i64 bo), .v false (.int .i64 pa), .v false (.int .i64 sp), .v false (.bool su), .v false (.int .i64 re), .v false (.int .i64 ga), .v false (.int .i64 br), .v false (.int .i64 sk), .v false (.int .i64 dr), .v false (.int .i64 fe), .v false (.int .i64 tr), .v false (.int .i64 rt), .v false (.int .i64 mt), .v false (.int .i64 mf), .v false (.int .i64 nz), .v false (.int .i64 bd)]] = .br ((bif !sv pi he wa tp bo pa sp su re ga br sk dr fe tr rt mt mf nz bd then (decide (((0 : Nat) + List.length L) * (64 : Nat) ≤ maxNew) && decide ((0 : Nat) + List.length L ≤ maxLen)) else ((sv pi he wa tp bo pa sp su re ga br sk dr fe tr rt mt mf nz bd) && ((rsl_cond (L, pi, he, wa, tp, bo, pa, sp, su, re, ga, br, sk, dr, fe, tr, rt, mt, mf, nz, bd) (slw mf pi, slw fe pi)) && ((Nat.beq (Prod.fst (rsl_g (L, pi, he, wa, tp, bo, pa, sp, su, re, ga, br, sk, dr, fe, tr, rt, mt, mf, nz, bd) (slw mf pi, slw fe pi))) (0 : Nat)) && (lOk L)))))) (.ret (.one (.d false false (.prod (.int .i64) (.prod (.int .i64) (.prod (.int .i64) (.prod (.int .i64) (.prod (.int .i64) (.list (.prod (.int .i64) (.int .i64)))))))) (bif !sv pi he wa tp bo pa sp su re ga br sk dr fe tr rt mt mf nz bd then L else lmt (Prod.fst (Prod.snd (rsl_g (L, pi, he, wa, tp, bo, pa, sp, su, re, ga, br, sk, dr, fe, tr, rt, mt, mf, nz, bd) (slw mf pi, slw fe pi)))) L)))) (.bad 116) := by kernel_rfl
theorem rslc_val (L : (Ty.list (.prod (.int .i64) (.prod (.int .i64) (.prod (.int .i64) (.prod (.int .i64) (.prod (.int .i64) (.list (.prod (.int .i64) (.int .i64))))))))).den) (pi : Int) (he : Int) (wa : Int) (tp : Int) (bo : Int) (pa : Int) (sp : Int) (su : Bool) (re : Int) (ga : Int) (br : Int) (sk : Int) (dr : Int) (fe : Int) (tr : Int) (rt : Int) (mt : Int) (mf : Int) (nz : Int) (bd : Int) (hc : (lOk L) = true) : (.br ((bif !sv pi he wa tp bo pa sp su re ga br sk dr fe tr rt mt mf nz bd then (decide (((0 : Nat) + List.length L) * (64 : Nat) ≤ maxNew) && decide ((0 : Nat) + List.length L ≤ maxLen)) else ((sv pi he wa tp bo pa sp su re ga br sk dr fe tr rt mt mf nz bd) && ((rsl_cond (L, pi, he, wa, tp, bo, pa, sp, su, re, ga, br, sk, dr, fe, tr, rt, mt, mf, nz, bd) (slw mf pi, slw fe pi)) && ((Nat.beq (Prod.fst (rsl_g (L, pi, he, wa, tp, bo, pa, sp, su, re, ga, br, sk, dr, fe, tr, rt, mt, mf, nz, bd) (slw mf pi, slw fe pi))) (0 : Nat)) && (lOk L)))))) (.ret (.one (.d false false (.prod (.int .i64) (.prod (.int .i64) (.prod (.int .i64) (.prod (.int .i64) (.prod (.int .i64) (.list (.prod (.int .i64) (.int .i64)))))))) (bif !sv pi he wa tp bo pa sp su re ga br sk dr fe tr rt mt mf nz bd then L else lmt (Prod.fst (Prod.snd (rsl_g (L, pi, he, wa, tp, bo, pa, sp, su, re, ga, br, sk, dr, fe, tr, rt, mt, mf, nz, bd) (slw mf pi, slw fe pi)))) L)))) (.bad 116) : Tr AV).val = some (.one (.d false false (.prod (.int .i64) (.prod (.int .i64) (.prod (.int .i64) (.prod (.int .i64) (.prod (.int .i64) (.list (.prod (.int .i64) (.int .i64)))))))) (bif sv pi he wa tp bo pa sp su re ga br sk dr fe tr rt mt mf nz bd then lmt (rsV L pi he wa tp bo pa sp su re ga br sk dr fe tr rt mt mf nz bd) L else L))) := by
  obtain ⟨r1, r2⟩ := room64 (n := L.length) (by have := (lOk_iff.1 hc).1; omega)
  show cond _ _ _ = _
  cases hs : sv pi he wa tp bo pa sp su re ga br sk dr fe tr rt mt mf nz bd
  · simp only [r1, r2, Nat.zero_add, Bool.not_false, Bool.and_self, cond_true, cond_false, Tr.val]
  · obtain ⟨p, f, g⟩ := sv_sp hs
    obtain ⟨w1, a1, a2⟩ := slw_in p.1 g.1 (by omega)
    obtain ⟨w2, b1, b2⟩ := slw_in p.1 f.1 f.2
    have mo := slw_mono p.1 g.1 g.2
    obtain ⟨q1, q2, q3⟩ := rsl_run hc (lo := slw mf pi) (hi := slw fe pi) pi he wa tp bo pa sp re ga br sk dr fe tr rt mt mf nz bd su a1 mo b2
    simp only [q1, q2, hc, Nat.beq, Bool.not_true, Bool.and_self, cond_true, cond_false, Tr.val]
    rfl
noncomputable def rslc_g : List AV → Option (Tr AV)
  | [.one (.d _ _ (.prod (.int .i64) (.prod (.int .i64) (.prod (.int .i64) (.prod (.int .i64) (.prod (.int .i64) (.list (.prod (.int .i64) (.int .i64)))))))) L), .ag [.v _ (.int .i64 pi), .v _ (.int .i64 he), .v _ (.int .i64 wa), .v _ (.int .i64 tp), .v _ (.int .i64 bo), .v _ (.int .i64 pa), .v _ (.int .i64 sp), .v _ (.bool su), .v _ (.int .i64 re), .v _ (.int .i64 ga), .v _ (.int .i64 br), .v _ (.int .i64 sk), .v _ (.int .i64 dr), .v _ (.int .i64 fe), .v _ (.int .i64 tr), .v _ (.int .i64 rt), .v _ (.int .i64 mt), .v _ (.int .i64 mf), .v _ (.int .i64 nz), .v _ (.int .i64 bd)]] => some (.br (lOk L) (.ret (.one (.d false false (.prod (.int .i64) (.prod (.int .i64) (.prod (.int .i64) (.prod (.int .i64) (.prod (.int .i64) (.list (.prod (.int .i64) (.int .i64)))))))) (bif sv pi he wa tp bo pa sp su re ga br sk dr fe tr rt mt mf nz bd then lmt (rsV L pi he wa tp bo pa sp su re ga br sk dr fe tr rt mt mf nz bd) L else L)))) (.bad 900))
  | _ => none
set_option maxHeartbeats 4000000 in
theorem rslc_ok : FunOK Try.prog 22 rslc_g := by
  refine fun_ok (by kernel_rfl) (coD_S52_ok) (coD_L53_ok) 9 (On := (opens [])) (fun args t h => ?_)
  unfold rslc_g at h
  split at h
  · rename_i _ _ L _ pi _ he _ wa _ tp _ bo _ pa _ sp _ su _ re _ ga _ br _ sk _ dr _ fe _ tr _ rt _ mt _ mf _ nz _ bd
    simp only [Option.some.injEq] at h
    subst h
    refine ⟨[.one (.d false false (.prod (.int .i64) (.prod (.int .i64) (.prod (.int .i64) (.prod (.int .i64) (.prod (.int .i64) (.list (.prod (.int .i64) (.int .i64)))))))) L), .ag [.v false (.int .i64 pi), .v false (.int .i64 he), .v false (.int .i64 wa), .v false (.int .i64 tp), .v false (.int .i64 bo), .v false (.int .i64 pa), .v false (.int .i64 sp), .v false (.bool su), .v false (.int .i64 re), .v false (.int .i64 ga), .v false (.int .i64 br), .v false (.int .i64 sk), .v false (.int .i64 dr), .v false (.int .i64 fe), .v false (.int .i64 tr), .v false (.int .i64 rt), .v false (.int .i64 mt), .v false (.int .i64 mf), .v false (.int .i64 nz), .v false (.int .i64 bd)]], rfl, fun fr w us h => h, fun r hr => ?_⟩
    obtain ⟨hc, hr⟩ := br_bad hr
    simp only [Tr.val, Option.some.injEq] at hr
    subst hr
    rw [rslc_tree]
    exact rslc_val L pi he wa tp bo pa sp su re ga br sk dr fe tr rt mt mf nz bd hc
  · cases h
noncomputable def coD_S54 : Sums := addS 22 rslc_g coD_S52
theorem coD_S54_ok : SumOK Try.prog coD_S54 := addS_ok (rslc_ok) (coD_S52_ok)
end Go.Proofs.Ytbmdbejoignenaa
