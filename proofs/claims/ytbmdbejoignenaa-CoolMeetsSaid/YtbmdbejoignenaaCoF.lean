/-
  Layer 36: CoolSlows.
-/
import Derived.Test.YtbmdbejoignenaaProg
import Derived.Test.YtbmdbejoignenaaFvX
import Derived.Test.YtbmdbejoignenaaFvZ
import Derived.Test.YtbmdbejoignenaaAut
import Derived.Test.YtbmdbejoignenaaRd
import Derived.Test.YtbmdbejoignenaaPl
import Derived.Test.YtbmdbejoignenaaScn
import Derived.Test.YtbmdbejoignenaaCoA
import Derived.Test.YtbmdbejoignenaaCoB
import Derived.Test.YtbmdbejoignenaaCoC
import Derived.Test.YtbmdbejoignenaaCoD
import Derived.Test.YtbmdbejoignenaaCoE
namespace Go.Proofs.Ytbmdbejoignenaa
open Go
abbrev sam_U : Type := (Ty.list (.prod (.int .i64) (.prod (.int .i64) (.prod (.int .i64) (.prod (.int .i64) (.prod (.int .i64) (.list (.prod (.int .i64) (.int .i64))))))))).den × (Ty.list (.prod (.int .i64) (.prod (.int .i64) (.prod (.int .i64) (.prod (.int .i64) (.prod (.int .i64) (.list (.prod (.int .i64) (.int .i64))))))))).den × Int
abbrev sam_V : Type := Bool × Int
noncomputable def sam_St (u : sam_U) (v : sam_V) : Stt := ⟨[.one (.d false false (.prod (.int .i64) (.prod (.int .i64) (.prod (.int .i64) (.prod (.int .i64) (.prod (.int .i64) (.list (.prod (.int .i64) (.int .i64)))))))) u.1), .one (.d false false (.prod (.int .i64) (.prod (.int .i64) (.prod (.int .i64) (.prod (.int .i64) (.prod (.int .i64) (.list (.prod (.int .i64) (.int .i64)))))))) u.2.1), .one .junk, .one .junk, .one (.v false (.bool v.1)), .one .junk, .one .junk, .one .junk, .one .junk, .one .junk, .one .junk, .one .junk, .one (.v false (.int .i64 u.2.2)), .one (.v false (.int .i64 v.2)), .one .junk, .one .junk, .one .junk, .one .junk, .one .junk, .one .junk, .one .junk, .one .junk, .one .junk, .one .junk, .one .junk, .one .junk, .one .junk, .one .junk, .one .junk, .one .junk, .one .junk, .one .junk, .one .junk, .one .junk, .one .junk, .one .junk, .one .junk, .one .junk, .one .junk, .one .junk], [], 1009⟩
noncomputable def sam_step (u : sam_U) (v : sam_V) : Tr (sam_V ⊕ (Nat × sam_V)) :=
  match u, v with
  | (q0, q1, q3), (q2, q4) => .br (decide (q4 < q3)) (.br (decide ((0 : Int) ≤ q4) && decide (q4 < (↑(List.length q0) : Int))) (.br (decide ((0 : Int) ≤ q4) && decide (q4 < (↑(List.length q1) : Int))) (.br (decide (List.length (Prod.snd (Prod.snd (Prod.snd (Prod.snd (Prod.snd (el_iiiiilii q0 q4)))))) ≤ (1000 : Nat))) (.br ((bif !eqN (Prod.fst (el_iiiiilii q0 q4)) (Prod.fst (Prod.snd (el_iiiiilii q0 q4))) (Prod.fst (Prod.snd (Prod.snd (el_iiiiilii q0 q4)))) (Prod.fst (Prod.snd (Prod.snd (Prod.snd (el_iiiiilii q0 q4))))) (Prod.snd (Prod.snd (Prod.snd (Prod.snd (Prod.snd (el_iiiiilii q0 q4)))))) (Prod.fst (el_iiiiilii q1 q4)) (Prod.fst (Prod.snd (el_iiiiilii q1 q4))) (Prod.fst (Prod.snd (Prod.snd (el_iiiiilii q1 q4)))) (Prod.fst (Prod.snd (Prod.snd (Prod.snd (el_iiiiilii q1 q4))))) (Prod.snd (Prod.snd (Prod.snd (Prod.snd (Prod.snd (el_iiiiilii q1 q4)))))) then true else ((decide ((0 : Int) ≤ q4) && decide (q4 < (↑(List.length q0) : Int))) && (decide ((0 : Int) ≤ q4) && decide (q4 < (↑(List.length q1) : Int)))))) (.br (bif !eqN (Prod.fst (el_iiiiilii q0 q4)) (Prod.fst (Prod.snd (el_iiiiilii q0 q4))) (Prod.fst (Prod.snd (Prod.snd (el_iiiiilii q0 q4)))) (Prod.fst (Prod.snd (Prod.snd (Prod.snd (el_iiiiilii q0 q4))))) (Prod.snd (Prod.snd (Prod.snd (Prod.snd (Prod.snd (el_iiiiilii q0 q4)))))) (Prod.fst (el_iiiiilii q1 q4)) (Prod.fst (Prod.snd (el_iiiiilii q1 q4))) (Prod.fst (Prod.snd (Prod.snd (el_iiiiilii q1 q4)))) (Prod.fst (Prod.snd (Prod.snd (Prod.snd (el_iiiiilii q1 q4))))) (Prod.snd (Prod.snd (Prod.snd (Prod.snd (Prod.snd (el_iiiiilii q1 q4)))))) then true else Prod.fst (Prod.snd (Prod.snd (Prod.snd (Prod.snd (el_iiiiilii q0 q4))))) != Prod.fst (Prod.snd (Prod.snd (Prod.snd (Prod.snd (el_iiiiilii q1 q4)))))) (.ret (.inr (0, (false, q4)))) (.ret (.inl (q2, IntKind.wrap IntKind.i64 (q4 + (1 : Int)))))) (.bad 117)) (.bad 900)) (.bad 29)) (.bad 29)) (.ret (.inr (1, (q2, q4))))
set_option maxRecDepth 100000 in
set_option maxHeartbeats 4000000 in
theorem sam_step_eq : ∀ (u : sam_U) (v : sam_V), (evalC Try.prog (evalB Try.prog coE_S56 (opens []) coE_L55 7).1 (evalB Try.prog coE_S56 (opens []) coE_L55 7).2 (opens []) (coE_L55 20) 100000 (0 :: [0, 1, 0, 1, 1]) (loopOf (bodyOf Try.prog 20) [1, 1, 0, 1, 0]) (sam_St u v) []).bind (finF [2, 3, 5, 6, 7, 8, 9, 10, 11, 14, 15, 16, 17, 18, 19, 20, 21, 22, 23, 24, 25, 26, 27, 28, 29, 30, 31, 32, 33, 34, 35, 36, 37, 38, 39] [] [] [] 1009) = (sam_step u v).bind (outA (sam_St u) [.ret, .exit 0]) := by
  rintro ⟨q0, q1, q3⟩ ⟨q2, q4⟩
  kernel_rfl
noncomputable def sam_rd (b : Bool) (o0 : Option AV) (o1 : Option AV) (o4 : Option AV) (o12 : Option AV) (o13 : Option AV) (own : Own) : Option (sam_U × sam_V) := zrT b <| zrO o0 fun za1 => zrA1 za1 fun zc2 => zrD (.prod (.int .i64) (.prod (.int .i64) (.prod (.int .i64) (.prod (.int .i64) (.prod (.int .i64) (.list (.prod (.int .i64) (.int .i64)))))))) zc2 fun q0 => zrO o1 fun za3 => zrA1 za3 fun zc4 => zrD (.prod (.int .i64) (.prod (.int .i64) (.prod (.int .i64) (.prod (.int .i64) (.prod (.int .i64) (.list (.prod (.int .i64) (.int .i64)))))))) zc4 fun q1 => zrO o4 fun za5 => zrA1 za5 fun zc6 => zrB zc6 fun q2 => zrO o12 fun za7 => zrA1 za7 fun zc8 => zrI .i64 zc8 fun q3 => zrO o13 fun za9 => zrA1 za9 fun zc10 => zrI .i64 zc10 fun q4 => zrN own <| some ((q0, q1, q3), (q2, q4))
noncomputable def sam_can (st : Stt) : Stt := canA [2, 3, 5, 6, 7, 8, 9, 10, 11, 14, 15, 16, 17, 18, 19, 20, 21, 22, 23, 24, 25, 26, 27, 28, 29, 30, 31, 32, 33, 34, 35, 36, 37, 38, 39] [] [] [] 1009 st
noncomputable def sam_cok (st : Stt) : Bool := canAok [2, 3, 5, 6, 7, 8, 9, 10, 11, 14, 15, 16, 17, 18, 19, 20, 21, 22, 23, 24, 25, 26, 27, 28, 29, 30, 31, 32, 33, 34, 35, 36, 37, 38, 39] [] [] [] 1009 st
noncomputable def sam_read (st : Stt) : Option (sam_U × sam_V) := sam_rd (sam_cok st && (staysA [] [] st.own && juAll [2, 3, 5, 6, 7, 8, 9, 10, 11, 14, 15, 16, 17, 18, 19, 20, 21, 22, 23, 24, 25, 26, 27, 28, 29, 30, 31, 32, 33, 34, 35, 36, 37, 38, 39] (sam_can st).tm 40)) (sam_can st).tm[0]? (sam_can st).tm[1]? (sam_can st).tm[4]? (sam_can st).tm[12]? (sam_can st).tm[13]? (sam_can st).own
set_option maxRecDepth 100000 in
set_option maxHeartbeats 4000000 in
theorem sam_rd_ok {b : Bool} {tm : List AV} {own : Own} {u : sam_U} {v : sam_V} (hj : b = true → juAll [2, 3, 5, 6, 7, 8, 9, 10, 11, 14, 15, 16, 17, 18, 19, 20, 21, 22, 23, 24, 25, 26, 27, 28, 29, 30, 31, 32, 33, 34, 35, 36, 37, 38, 39] tm 40 = true) (h : sam_rd b tm[0]? tm[1]? tm[4]? tm[12]? tm[13]? own = some (u, v)) : b = true ∧ tm = (sam_St u v).tm ∧ own = (sam_St u v).own := by
  unfold sam_rd at h
  obtain ⟨rfl, h0⟩ := zrT_some h
  obtain ⟨za1, e0, h1⟩ := zrO_some h0
  obtain ⟨zc2, rfl, h2⟩ := zrA1_some h1
  obtain ⟨q0, rfl, h3⟩ := zrD_some h2
  obtain ⟨za3, e1, h4⟩ := zrO_some h3
  obtain ⟨zc4, rfl, h5⟩ := zrA1_some h4
  obtain ⟨q1, rfl, h6⟩ := zrD_some h5
  obtain ⟨za5, e4, h7⟩ := zrO_some h6
  obtain ⟨zc6, rfl, h8⟩ := zrA1_some h7
  obtain ⟨q2, rfl, h9⟩ := zrB_some h8
  obtain ⟨za7, e12, h10⟩ := zrO_some h9
  obtain ⟨zc8, rfl, h11⟩ := zrA1_some h10
  obtain ⟨q3, rfl, h12⟩ := zrI_some h11
  obtain ⟨za9, e13, h13⟩ := zrO_some h12
  obtain ⟨zc10, rfl, h14⟩ := zrA1_some h13
  obtain ⟨q4, rfl, h15⟩ := zrI_some h14
  obtain ⟨rfl, h16⟩ := zrN_some h15
  have h := Option.some.inj h16
  have hu := congrArg Prod.fst h
  have hv := congrArg Prod.snd h
  dsimp only at hu hv
  subst hu
  subst hv
  exact ⟨rfl, (tm_fill (hj rfl) (Lv := [(0, .one (.d false false (.prod (.int .i64) (.prod (.int .i64) (.prod (.int .i64) (.prod (.int .i64) (.prod (.int .i64) (.list (.prod (.int .i64) (.int .i64)))))))) q0)), (1, .one (.d false false (.prod (.int .i64) (.prod (.int .i64) (.prod (.int .i64) (.prod (.int .i64) (.prod (.int .i64) (.list (.prod (.int .i64) (.int .i64)))))))) q1)), (4, .one (.v false (.bool q2))), (12, .one (.v false (.int .i64 q3))), (13, .one (.v false (.int .i64 q4)))]) (by kernel_rfl) ⟨e0, e1, e4, e12, e13, trivial⟩).trans (by kernel_rfl), rfl⟩
theorem sam_read_ok (st : Stt) (u : sam_U) (v : sam_V) (h : sam_read st = some (u, v)) : sam_cok st = true ∧ staysA [] [] st.own = true ∧ sam_can st = sam_St u v := by
  obtain ⟨h1, h2, h3⟩ := sam_rd_ok (fun hb => by rw [Bool.and_eq_true, Bool.and_eq_true] at hb; exact hb.2.2) h
  rw [Bool.and_eq_true, Bool.and_eq_true] at h1
  refine ⟨h1.1, h1.2.1, ?_⟩
  have e : sam_can st = ⟨(sam_can st).tm, (sam_can st).own, 1009⟩ := by kernel_rfl
  rw [e, h2, h3]
  rfl
noncomputable def sam_cond (u : sam_U) (v : sam_V) : Bool := runC (sam_step u) v
noncomputable def sam_g (u : sam_U) (v : sam_V) : Nat × sam_V := runG (sam_step u) v
theorem sam_hg : ∀ (u : sam_U) (v : sam_V), sam_cond u v = true → loopN (sam_step u) ((fun u v => runF (sam_step u) v) u v) v = some (sam_g u v) := by
  exact fun u v h => run_hg h
noncomputable def sam_m (st : Stt) : Option (Tr (Ex × Stt)) := sumM sam_read sam_cond sam_St sam_g [(0, .ret), (1, .exit 0)] st
noncomputable def coF_L51 : FuncId → Loops := addL 20 [0, 1, 0, 1, 1] sam_m coE_L55
set_option maxRecDepth 100000 in
set_option maxHeartbeats 4000000 in
theorem coF_L51_ok : LoopsOK Try.prog coF_L51 :=
  loop_sumF (body := (bodyOf Try.prog 20)) (c := (loopOf (bodyOf Try.prog 20) [1, 1, 0, 1, 0])) (kinds := [.ret, .exit 0]) (allow := [(0, .ret), (1, .exit 0)]) (St := sam_St) (step := sam_step) (W := [2, 3, 5, 6, 7, 8, 9, 10, 11, 14, 15, 16, 17, 18, 19, 20, 21, 22, 23, 24, 25, 26, 27, 28, 29, 30, 31, 32, 33, 34, 35, 36, 37, 38, 39]) (As := []) (ks := []) (dd := []) (nx := 1009) (n := 100000) (g := sam_g) (cond := sam_cond) (fuel := (fun u v => runF (sam_step u) v)) (read := sam_read) (by kernel_rfl) (coE_S56_ok) (coE_L55_ok) 7 ⟨Try.f20, by kernel_rfl, by kernel_rfl⟩ (by kernel_rfl) (by kernel_rfl) (by kernel_rfl) sam_step_eq sam_hg sam_read_ok
noncomputable def sameL (L M : List Opn) : Bool := @decide (L = M) (Classical.propDecidable _)
theorem sameL_refl (L : List Opn) : sameL L L = true := by
  unfold sameL
  exact @decide_eq_true _ (Classical.propDecidable _) rfl
theorem sameL_eq {L M : List Opn} (h : sameL L M = true) : L = M := by
  unfold sameL at h
  exact @of_decide_eq_true _ (Classical.propDecidable _) h
theorem eqN_refl (k r l z : Int) (C : List (Int × Int)) : eqN k r l z C k r l z C = true := by
  unfold eqN
  exact decide_eq_true ⟨rfl, rfl, rfl, rfl, rfl⟩
theorem sam_run {L : List Opn} (h : lOk L = true) : sam_cond (L, L, (L.length : Int)) (false, 0) = true ∧ sam_g (L, L, (L.length : Int)) (false, 0) = (1, (false, (L.length : Int))) := by
  obtain ⟨hL, hc⟩ := lOk_iff.1 h
  have R := run_steps (step := sam_step (L, L, (L.length : Int))) (St := fun j => (false, (j : Int))) (n := L.length) (t := (1, (false, (L.length : Int)))) (by
    simp only [sam_step, Tr.val, Int.lt_irrefl, decide_false, cond_false]) L.length 0 (Nat.zero_add _) (fun j _ hj => by
    have c3 : decide (List.length L[j].2.2.2.2.2 ≤ 1000) = true := decide_eq_true (hc j hj)
    simp only [sam_step, Tr.val, lt_t hj, nn_t, el_o hj, c3, eqN_refl, bne_self_eq_false, wi1 hj (show (L.length : Int) ≤ 9223372036854775806 by omega), Bool.not_true, Bool.and_self, cond_true, cond_false])
  exact R
set_option maxRecDepth 100000 in
theorem smc_tree (L : (Ty.list (.prod (.int .i64) (.prod (.int .i64) (.prod (.int .i64) (.prod (.int .i64) (.prod (.int .i64) (.list (.prod (.int .i64) (.int .i64))))))))).den) (M : (Ty.list (.prod (.int .i64) (.prod (.int .i64) (.prod (.int .i64) (.prod (.int .i64) (.prod (.int .i64) (.list (.prod (.int .i64) (.int .i64))))))))).den) : evalF Try.prog coE_S56 (opens []) coF_L51 9 20 [.one (.d false false (.prod (.int .i64) (.prod (.int .i64) (.prod (.int .i64) (.prod (.int .i64) (.prod (.int .i64) (.list (.prod (.int .i64) (.int .i64)))))))) L), .one (.d false false (.prod (.int .i64) (.prod (.int .i64) (.prod (.int .i64) (.prod (.int .i64) (.prod (.int .i64) (.list (.prod (.int .i64) (.int .i64)))))))) M)] = .br ((bif (↑(List.length L) : Int) != (↑(List.length M) : Int) then true else ((sam_cond (L, M, (↑(List.length L) : Int)) (false, (0 : Int))) && (bif Nat.beq (Prod.fst (sam_g (L, M, (↑(List.length L) : Int)) (false, (0 : Int)))) (0 : Nat) then true else (Nat.beq (Prod.fst (sam_g (L, M, (↑(List.length L) : Int)) (false, (0 : Int)))) (1 : Nat)))))) (.ret (.one (.v false (.bool (bif (↑(List.length L) : Int) != (↑(List.length M) : Int) then false else bif Nat.beq (Prod.fst (sam_g (L, M, (↑(List.length L) : Int)) (false, (0 : Int)))) (0 : Nat) then Prod.fst (Prod.snd (sam_g (L, M, (↑(List.length L) : Int)) (false, (0 : Int)))) else true))))) (.bad 116) := by kernel_rfl
theorem smc_val (L : (Ty.list (.prod (.int .i64) (.prod (.int .i64) (.prod (.int .i64) (.prod (.int .i64) (.prod (.int .i64) (.list (.prod (.int .i64) (.int .i64))))))))).den) (M : (Ty.list (.prod (.int .i64) (.prod (.int .i64) (.prod (.int .i64) (.prod (.int .i64) (.prod (.int .i64) (.list (.prod (.int .i64) (.int .i64))))))))).den) (hc : (lOk L && sameL L M) = true) : (.br ((bif (↑(List.length L) : Int) != (↑(List.length M) : Int) then true else ((sam_cond (L, M, (↑(List.length L) : Int)) (false, (0 : Int))) && (bif Nat.beq (Prod.fst (sam_g (L, M, (↑(List.length L) : Int)) (false, (0 : Int)))) (0 : Nat) then true else (Nat.beq (Prod.fst (sam_g (L, M, (↑(List.length L) : Int)) (false, (0 : Int)))) (1 : Nat)))))) (.ret (.one (.v false (.bool (bif (↑(List.length L) : Int) != (↑(List.length M) : Int) then false else bif Nat.beq (Prod.fst (sam_g (L, M, (↑(List.length L) : Int)) (false, (0 : Int)))) (0 : Nat) then Prod.fst (Prod.snd (sam_g (L, M, (↑(List.length L) : Int)) (false, (0 : Int)))) else true))))) (.bad 116) : Tr AV).val = some (.one (.v false (.bool true))) := by
  rw [Bool.and_eq_true] at hc
  obtain ⟨h1, h2⟩ := hc
  have h2 := sameL_eq h2
  subst h2
  obtain ⟨v1, v2⟩ := sam_run h1
  simp [v1, v2, Tr.val, Nat.beq]
noncomputable def smc_g : List AV → Option (Tr AV)
  | [.one (.d _ _ (.prod (.int .i64) (.prod (.int .i64) (.prod (.int .i64) (.prod (.int .i64) (.prod (.int .i64) (.list (.prod (.int .i64) (.int .i64)))))))) L), .one (.d _ _ (.prod (.int .i64) (.prod (.int .i64) (.prod (.int .i64) (.prod (.int .i64) (.prod (.int .i64) (.list (.prod (.int .i64) (.int .i64)))))))) M)] => some (.br (lOk L && sameL L M) (.ret (.one (.v false (.bool true)))) (.bad 900))
  | _ => none
set_option maxHeartbeats 4000000 in
theorem smc_ok : FunOK Try.prog 20 smc_g := by
  refine fun_ok (by kernel_rfl) (coE_S56_ok) (coF_L51_ok) 9 (On := (opens [])) (fun args t h => ?_)
  unfold smc_g at h
  split at h
  · rename_i _ _ L _ _ M
    simp only [Option.some.injEq] at h
    subst h
    refine ⟨[.one (.d false false (.prod (.int .i64) (.prod (.int .i64) (.prod (.int .i64) (.prod (.int .i64) (.prod (.int .i64) (.list (.prod (.int .i64) (.int .i64)))))))) L), .one (.d false false (.prod (.int .i64) (.prod (.int .i64) (.prod (.int .i64) (.prod (.int .i64) (.prod (.int .i64) (.list (.prod (.int .i64) (.int .i64)))))))) M)], rfl, fun fr w us h => h, fun r hr => ?_⟩
    obtain ⟨hc, hr⟩ := br_bad hr
    simp only [Tr.val, Option.some.injEq] at hr
    subst hr
    rw [smc_tree]
    exact smc_val L M hc
  · cases h
noncomputable def coF_S52 : Sums := addS 20 smc_g coE_S56
theorem coF_S52_ok : SumOK Try.prog coF_S52 := addS_ok (smc_ok) (coE_S56_ok)
set_option maxRecDepth 100000 in
theorem law_CoolSlows_tree (L : (Ty.list (.prod (.int .i64) (.prod (.int .i64) (.prod (.int .i64) (.prod (.int .i64) (.prod (.int .i64) (.list (.prod (.int .i64) (.int .i64))))))))).den) (pi : Int) (he : Int) (wa : Int) (tp : Int) (bo : Int) (pa : Int) (sp : Int) (su : Bool) (re : Int) (ga : Int) (br : Int) (sk : Int) (dr : Int) (fe : Int) (tr : Int) (rt : Int) (mt : Int) (mf : Int) (nz : Int) (bd : Int) : evalF Try.prog coF_S52 (opens []) coF_L51 9 6 [.one (.d false false (.prod (.int .i64) (.prod (.int .i64) (.prod (.int .i64) (.prod (.int .i64) (.prod (.int .i64) (.list (.prod (.int .i64) (.int .i64)))))))) L), .ag [.v false (.int .i64 pi), .v false (.int .i64 he), .v false (.int .i64 wa), .v false (.int .i64 tp), .v false (.int .i64 bo), .v false (.int .i64 pa), .v false (.int .i64 sp), .v false (.bool su), .v false (.int .i64 re), .v false (.int .i64 ga), .v false (.int .i64 br), .v false (.int .i64 sk), .v false (.int .i64 dr), .v false (.int .i64 fe), .v false (.int .i64 tr), .v false (.int .i64 rt), .v false (.int .i64 mt), .v false (.int .i64 mf), .v false (.int .i64 nz), .v false (.int .i64 bd)]] = .br (((lOk (cfw L)) && ((lOk (cfw L)) && (lOk (bif sv pi he wa tp bo pa sp su re ga br sk dr fe tr rt mt mf nz bd then lmt (rsV (cfw L) pi he wa tp bo pa sp su re ga br sk dr fe tr rt mt mf nz bd) (cfw L) else cfw L) && sameL (bif sv pi he wa tp bo pa sp su re ga br sk dr fe tr rt mt mf nz bd then lmt (rsV (cfw L) pi he wa tp bo pa sp su re ga br sk dr fe tr rt mt mf nz bd) (cfw L) else cfw L) (bif sv pi he wa tp bo pa sp su re ga br sk dr fe tr rt mt mf nz bd then lmt (rsV (cfw L) pi he wa tp bo pa sp su re ga br sk dr fe tr rt mt mf nz bd) (cfw L) else cfw L))))) (.ret (.one (.v false (.bool (true))))) (.bad 116) := by kernel_rfl
set_option maxHeartbeats 4000000 in
theorem law_CoolSlows_all (L : (Ty.list (.prod (.int .i64) (.prod (.int .i64) (.prod (.int .i64) (.prod (.int .i64) (.prod (.int .i64) (.list (.prod (.int .i64) (.int .i64))))))))).den) (pi : Int) (he : Int) (wa : Int) (tp : Int) (bo : Int) (pa : Int) (sp : Int) (su : Bool) (re : Int) (ga : Int) (br : Int) (sk : Int) (dr : Int) (fe : Int) (tr : Int) (rt : Int) (mt : Int) (mf : Int) (nz : Int) (bd : Int) (r0 : Ty.InR (.list (.prod (.int .i64) (.prod (.int .i64) (.prod (.int .i64) (.prod (.int .i64) (.prod (.int .i64) (.list (.prod (.int .i64) (.int .i64))))))))) L) (r1 : Ty.InR (.prod (.int .i64) (.prod (.int .i64) (.prod (.int .i64) (.prod (.int .i64) (.prod (.int .i64) (.prod (.int .i64) (.prod (.int .i64) (.prod .bool (.prod (.int .i64) (.prod (.int .i64) (.prod (.int .i64) (.prod (.int .i64) (.prod (.int .i64) (.prod (.int .i64) (.prod (.int .i64) (.prod (.int .i64) (.prod (.int .i64) (.prod (.int .i64) (.prod (.int .i64) (.int .i64)))))))))))))))))))) (pi, (he, (wa, (tp, (bo, (pa, (sp, (su, (re, (ga, (br, (sk, (dr, (fe, (tr, (rt, (mt, (mf, (nz, bd))))))))))))))))))))  : Tr.all (fun r => ∃ kn, r = AV.one (.v kn (.bool true))) (.br (((lOk (cfw L)) && ((lOk (cfw L)) && (lOk (bif sv pi he wa tp bo pa sp su re ga br sk dr fe tr rt mt mf nz bd then lmt (rsV (cfw L) pi he wa tp bo pa sp su re ga br sk dr fe tr rt mt mf nz bd) (cfw L) else cfw L) && sameL (bif sv pi he wa tp bo pa sp su re ga br sk dr fe tr rt mt mf nz bd then lmt (rsV (cfw L) pi he wa tp bo pa sp su re ga br sk dr fe tr rt mt mf nz bd) (cfw L) else cfw L) (bif sv pi he wa tp bo pa sp su re ga br sk dr fe tr rt mt mf nz bd then lmt (rsV (cfw L) pi he wa tp bo pa sp su re ga br sk dr fe tr rt mt mf nz bd) (cfw L) else cfw L))))) (.ret (.one (.v false (.bool (true))))) (.bad 116)) := by
  obtain ⟨l1, n1⟩ := cfw_ok L
  have l2 : ∀ v, lOk (lmt v (cfw L)) = true := fun v => lmt_ok l1
  have l3 : lOk (bif sv pi he wa tp bo pa sp su re ga br sk dr fe tr rt mt mf nz bd then lmt (rsV (cfw L) pi he wa tp bo pa sp su re ga br sk dr fe tr rt mt mf nz bd) (cfw L) else cfw L) = true := by
    cases sv pi he wa tp bo pa sp su re ga br sk dr fe tr rt mt mf nz bd
    · exact l1
    · exact l2 _
  simp only [l1, l3, sameL_refl, cond_true, Bool.and_self]
  exact ⟨fun _ => ⟨_, rfl⟩, fun h => by cases h⟩
set_option maxHeartbeats 4000000 in
theorem law_CoolSlows (v0 : Value) (x0 : ((.list (.prod (.int .i64) (.prod (.int .i64) (.prod (.int .i64) (.prod (.int .i64) (.prod (.int .i64) (.list (.prod (.int .i64) (.int .i64))))))))) : Ty).den) (r0 : Ty.InR (.list (.prod (.int .i64) (.prod (.int .i64) (.prod (.int .i64) (.prod (.int .i64) (.prod (.int .i64) (.list (.prod (.int .i64) (.int .i64))))))))) x0) (v1 : Value) (x1 : ((.prod (.int .i64) (.prod (.int .i64) (.prod (.int .i64) (.prod (.int .i64) (.prod (.int .i64) (.prod (.int .i64) (.prod (.int .i64) (.prod .bool (.prod (.int .i64) (.prod (.int .i64) (.prod (.int .i64) (.prod (.int .i64) (.prod (.int .i64) (.prod (.int .i64) (.prod (.int .i64) (.prod (.int .i64) (.prod (.int .i64) (.prod (.int .i64) (.prod (.int .i64) (.int .i64)))))))))))))))))))) : Ty).den) (r1 : Ty.InR (.prod (.int .i64) (.prod (.int .i64) (.prod (.int .i64) (.prod (.int .i64) (.prod (.int .i64) (.prod (.int .i64) (.prod (.int .i64) (.prod .bool (.prod (.int .i64) (.prod (.int .i64) (.prod (.int .i64) (.prod (.int .i64) (.prod (.int .i64) (.prod (.int .i64) (.prod (.int .i64) (.prod (.int .i64) (.prod (.int .i64) (.prod (.int .i64) (.prod (.int .i64) (.int .i64)))))))))))))))))))) x1) (z_w : World) (i0 : (AV.one (.d false false (.prod (.int .i64) (.prod (.int .i64) (.prod (.int .i64) (.prod (.int .i64) (.prod (.int .i64) (.list (.prod (.int .i64) (.int .i64)))))))) x0)).is [] (fun _ => none) (fun b => b < z_w.heap.size) z_w v0) (i1 : (AV.ag (Ty.cells false (.prod (.int .i64) (.prod (.int .i64) (.prod (.int .i64) (.prod (.int .i64) (.prod (.int .i64) (.prod (.int .i64) (.prod (.int .i64) (.prod .bool (.prod (.int .i64) (.prod (.int .i64) (.prod (.int .i64) (.prod (.int .i64) (.prod (.int .i64) (.prod (.int .i64) (.prod (.int .i64) (.prod (.int .i64) (.prod (.int .i64) (.prod (.int .i64) (.prod (.int .i64) (.int .i64)))))))))))))))))))) x1)).is [] (fun _ => none) (fun b => b < z_w.heap.size) z_w v1) : Calls Try.prog 6 #[v0, v1] z_w fun e w' => e = .returned (.bool true) ∧ Ext z_w w' := by
  obtain ⟨L, rfl⟩ : ∃ y, y = x0 := ⟨_, rfl⟩
  obtain ⟨pi, ⟨he, ⟨wa, ⟨tp, ⟨bo, ⟨pa, ⟨sp, ⟨su, ⟨re, ⟨ga, ⟨br, ⟨sk, ⟨dr, ⟨fe, ⟨tr, ⟨rt, ⟨mt, ⟨mf, ⟨nz, bd⟩⟩⟩⟩⟩⟩⟩⟩⟩⟩⟩⟩⟩⟩⟩⟩⟩⟩⟩ := x1
  refine law_of_tree (by kernel_rfl) (coF_S52_ok) (coF_L51_ok) (law_CoolSlows_tree L pi he wa tp bo pa sp su re ga br sk dr fe tr rt mt mf nz bd) (law_CoolSlows_all L pi he wa tp bo pa sp su re ga br sk dr fe tr rt mt mf nz bd r0 r1 ) rfl z_w _ _ (fun _ h => h) ⟨_, _, rfl, i0, ⟨_, _, rfl, i1, rfl⟩⟩
end Go.Proofs.Ytbmdbejoignenaa
