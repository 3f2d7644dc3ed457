/-
  Layer 36: CoolOthers, CoolAgain.
-/
import Derived.Test.YtbmdbejoignenaaProg
import Derived.Test.YtbmdbejoignenaaFvX
import Derived.Test.YtbmdbejoignenaaFvZ
import Derived.Test.YtbmdbejoignenaaAut
import Derived.Test.YtbmdbejoignenaaRd
import Derived.Test.YtbmdbejoignenaaPl
import Derived.Test.YtbmdbejoignenaaScn
import Derived.Test.YtbmdbejoignenaaCoA
import Derived.Test.YtbmdbejoignenaaCoB
import Derived.Test.YtbmdbejoignenaaCoC
import Derived.Test.YtbmdbejoignenaaCoD
import Derived.Test.YtbmdbejoignenaaCoE
import Derived.Test.YtbmdbejoignenaaCoF
namespace Go.Proofs.Ytbmdbejoignenaa
open Go
abbrev cot_U : Type := (Ty.list (.prod (.int .i64) (.prod (.int .i64) (.prod (.int .i64) (.prod (.int .i64) (.prod (.int .i64) (.list (.prod (.int .i64) (.int .i64))))))))).den × (Ty.list (.prod (.int .i64) (.prod (.int .i64) (.prod (.int .i64) (.prod (.int .i64) (.prod (.int .i64) (.list (.prod (.int .i64) (.int .i64))))))))).den × Int
abbrev cot_V : Type := Bool × Int
noncomputable def cot_St (u : cot_U) (v : cot_V) : Stt := ⟨[.one (.d false false (.prod (.int .i64) (.prod (.int .i64) (.prod (.int .i64) (.prod (.int .i64) (.prod (.int .i64) (.list (.prod (.int .i64) (.int .i64)))))))) u.1), .one .junk, .one .junk, .one .junk, .one (.v false (.bool v.1)), .one (.d false false (.prod (.int .i64) (.prod (.int .i64) (.prod (.int .i64) (.prod (.int .i64) (.prod (.int .i64) (.list (.prod (.int .i64) (.int .i64)))))))) u.2.1), .one .junk, .one .junk, .one .junk, .one .junk, .one .junk, .one .junk, .one .junk, .one .junk, .one .junk, .one .junk, .one .junk, .one .junk, .one .junk, .one .junk, .one .junk, .one .junk, .one .junk, .one .junk, .one .junk, .one .junk, .one .junk, .one (.v false (.int .i64 u.2.2)), .one (.v false (.int .i64 v.2)), .one .junk, .one .junk, .one .junk, .one .junk, .one .junk, .one .junk, .one .junk, .one .junk, .one .junk, .one .junk, .one .junk, .one .junk, .one .junk, .one .junk, .one .junk, .one .junk, .one .junk, .one .junk, .one .junk, .one .junk, .one .junk, .one .junk, .one .junk, .one .junk, .one .junk, .one .junk, .one .junk, .one .junk, .one .junk, .one .junk, .one .junk, .one .junk, .one .junk, .one .junk, .one .junk], [(0, .dead)], 1020⟩
noncomputable def cot_step (u : cot_U) (v : cot_V) : Tr (cot_V ⊕ (Nat × cot_V)) :=
  match u, v with
  | (q0, q2, q3), (q1, q4) => .br (decide (q4 < q3)) (.br (decide ((0 : Int) ≤ q4) && decide (q4 < (↑(List.length q0) : Int))) (.br (Prod.fst (el_iiiiilii q0 q4) != (3 : Int)) (.br (decide ((0 : Int) ≤ q4) && decide (q4 < (↑(List.length q2) : Int))) (.br (decide ((0 : Int) ≤ q4) && decide (q4 < (↑(List.length q0) : Int))) (.br (decide (List.length (Prod.snd (Prod.snd (Prod.snd (Prod.snd (Prod.snd (el_iiiiilii q2 q4)))))) ≤ (1000 : Nat))) (.br (eqN (Prod.fst (el_iiiiilii q2 q4)) (Prod.fst (Prod.snd (el_iiiiilii q2 q4))) (Prod.fst (Prod.snd (Prod.snd (el_iiiiilii q2 q4)))) (Prod.fst (Prod.snd (Prod.snd (Prod.snd (el_iiiiilii q2 q4))))) (Prod.snd (Prod.snd (Prod.snd (Prod.snd (Prod.snd (el_iiiiilii q2 q4)))))) (Prod.fst (el_iiiiilii q0 q4)) (Prod.fst (Prod.snd (el_iiiiilii q0 q4))) (Prod.fst (Prod.snd (Prod.snd (el_iiiiilii q0 q4)))) (Prod.fst (Prod.snd (Prod.snd (Prod.snd (el_iiiiilii q0 q4))))) (Prod.snd (Prod.snd (Prod.snd (Prod.snd (Prod.snd (el_iiiiilii q0 q4))))))) (.br (decide ((0 : Int) ≤ q4) && decide (q4 < (↑(List.length q2) : Int))) (.br (decide ((0 : Int) ≤ q4) && decide (q4 < (↑(List.length q0) : Int))) (.br (!Prod.fst (Prod.snd (Prod.snd (Prod.snd (Prod.snd (el_iiiiilii q2 q4))))) == Prod.fst (Prod.snd (Prod.snd (Prod.snd (Prod.snd (el_iiiiilii q0 q4)))))) (.ret (.inr (0, (false, q4)))) (.ret (.inl (q1, IntKind.wrap IntKind.i64 (q4 + (1 : Int)))))) (.bad 29)) (.bad 29)) (.br (true) (.ret (.inr (0, (false, q4)))) (.ret (.inl (q1, IntKind.wrap IntKind.i64 (q4 + (1 : Int))))))) (.bad 900)) (.bad 29)) (.bad 29)) (.br (false) (.ret (.inr (0, (false, q4)))) (.ret (.inl (q1, IntKind.wrap IntKind.i64 (q4 + (1 : Int))))))) (.bad 29)) (.ret (.inr (1, (q1, q4))))
set_option maxRecDepth 100000 in
set_option maxHeartbeats 4000000 in
theorem cot_step_eq : ∀ (u : cot_U) (v : cot_V), (evalC Try.prog (evalB Try.prog coF_S52 (opens []) coF_L51 7).1 (evalB Try.prog coF_S52 (opens []) coF_L51 7).2 (opens []) (coF_L51 9) 100000 (0 :: [0, 1, 0, 1, 1, 1, 1, 1]) (loopOf (bodyOf Try.prog 9) [1, 1, 1, 1, 1, 0, 1, 0]) (cot_St u v) []).bind (finF [1, 2, 3, 6, 7, 8, 9, 10, 11, 12, 13, 14, 15, 16, 17, 18, 19, 20, 21, 22, 23, 24, 25, 26, 29, 30, 31, 32, 33, 34, 35, 36, 37, 38, 39, 40, 41, 42, 43, 44, 45, 46, 47, 48, 49, 50, 51, 52, 53, 54, 55, 56, 57, 58, 59, 60, 61, 62, 63] [] [0] [0] 1020) = (cot_step u v).bind (outA (cot_St u) [.ret, .exit 0]) := by
  rintro ⟨q0, q2, q3⟩ ⟨q1, q4⟩
  kernel_rfl
noncomputable def cot_rd (b : Bool) (o0 : Option AV) (o4 : Option AV) (o5 : Option AV) (o27 : Option AV) (o28 : Option AV) (own : Own) : Option (cot_U × cot_V) := zrT b <| zrO o0 fun za1 => zrA1 za1 fun zc2 => zrD (.prod (.int .i64) (.prod (.int .i64) (.prod (.int .i64) (.prod (.int .i64) (.prod (.int .i64) (.list (.prod (.int .i64) (.int .i64)))))))) zc2 fun q0 => zrO o4 fun za3 => zrA1 za3 fun zc4 => zrB zc4 fun q1 => zrO o5 fun za5 => zrA1 za5 fun zc6 => zrD (.prod (.int .i64) (.prod (.int .i64) (.prod (.int .i64) (.prod (.int .i64) (.prod (.int .i64) (.list (.prod (.int .i64) (.int .i64)))))))) zc6 fun q2 => zrO o27 fun za7 => zrA1 za7 fun zc8 => zrI .i64 zc8 fun q3 => zrO o28 fun za9 => zrA1 za9 fun zc10 => zrI .i64 zc10 fun q4 => zrL own fun zq11 zw12 => zrKey 0 zq11 fun zk13 => zrX zk13 <| zrN zw12 <| some ((q0, q2, q3), (q1, q4))
noncomputable def cot_can (st : Stt) : Stt := canA [1, 2, 3, 6, 7, 8, 9, 10, 11, 12, 13, 14, 15, 16, 17, 18, 19, 20, 21, 22, 23, 24, 25, 26, 29, 30, 31, 32, 33, 34, 35, 36, 37, 38, 39, 40, 41, 42, 43, 44, 45, 46, 47, 48, 49, 50, 51, 52, 53, 54, 55, 56, 57, 58, 59, 60, 61, 62, 63] [] [0] [0] 1020 st
noncomputable def cot_cok (st : Stt) : Bool := canAok [1, 2, 3, 6, 7, 8, 9, 10, 11, 12, 13, 14, 15, 16, 17, 18, 19, 20, 21, 22, 23, 24, 25, 26, 29, 30, 31, 32, 33, 34, 35, 36, 37, 38, 39, 40, 41, 42, 43, 44, 45, 46, 47, 48, 49, 50, 51, 52, 53, 54, 55, 56, 57, 58, 59, 60, 61, 62, 63] [] [0] [0] 1020 st
noncomputable def cot_read (st : Stt) : Option (cot_U × cot_V) := cot_rd (cot_cok st && (staysA [] [0] st.own && juAll [1, 2, 3, 6, 7, 8, 9, 10, 11, 12, 13, 14, 15, 16, 17, 18, 19, 20, 21, 22, 23, 24, 25, 26, 29, 30, 31, 32, 33, 34, 35, 36, 37, 38, 39, 40, 41, 42, 43, 44, 45, 46, 47, 48, 49, 50, 51, 52, 53, 54, 55, 56, 57, 58, 59, 60, 61, 62, 63] (cot_can st).tm 64)) (cot_can st).tm[0]? (cot_can st).tm[4]? (cot_can st).tm[5]? (cot_can st).tm[27]? (cot_can st).tm[28]? (cot_can st).own
set_option maxRecDepth 100000 in
set_option maxHeartbeats 4000000 in
theorem cot_rd_ok {b : Bool} {tm : List AV} {own : Own} {u : cot_U} {v : cot_V} (hj : b = true → juAll [1, 2, 3, 6, 7, 8, 9, 10, 11, 12, 13, 14, 15, 16, 17, 18, 19, 20, 21, 22, 23, 24, 25, 26, 29, 30, 31, 32, 33, 34, 35, 36, 37, 38, 39, 40, 41, 42, 43, 44, 45, 46, 47, 48, 49, 50, 51, 52, 53, 54, 55, 56, 57, 58, 59, 60, 61, 62, 63] tm 64 = true) (h : cot_rd b tm[0]? tm[4]? tm[5]? tm[27]? tm[28]? own = some (u, v)) : b = true ∧ tm = (cot_St u v).tm ∧ own = (cot_St u v).own := by
  unfold cot_rd at h
  obtain ⟨rfl, h0⟩ := zrT_some h
  obtain ⟨za1, e0, h1⟩ := zrO_some h0
  obtain ⟨zc2, rfl, h2⟩ := zrA1_some h1
  obtain ⟨q0, rfl, h3⟩ := zrD_some h2
  obtain ⟨za3, e4, h4⟩ := zrO_some h3
  obtain ⟨zc4, rfl, h5⟩ := zrA1_some h4
  obtain ⟨q1, rfl, h6⟩ := zrB_some h5
  obtain ⟨za5, e5, h7⟩ := zrO_some h6
  obtain ⟨zc6, rfl, h8⟩ := zrA1_some h7
  obtain ⟨q2, rfl, h9⟩ := zrD_some h8
  obtain ⟨za7, e27, h10⟩ := zrO_some h9
  obtain ⟨zc8, rfl, h11⟩ := zrA1_some h10
  obtain ⟨q3, rfl, h12⟩ := zrI_some h11
  obtain ⟨za9, e28, h13⟩ := zrO_some h12
  obtain ⟨zc10, rfl, h14⟩ := zrA1_some h13
  obtain ⟨q4, rfl, h15⟩ := zrI_some h14
  obtain ⟨zq11, zw12, rfl, h16⟩ := zrL_some h15
  obtain ⟨zk13, rfl, h17⟩ := zrKey_some h16
  obtain ⟨rfl, h18⟩ := zrX_some h17
  obtain ⟨rfl, h19⟩ := zrN_some h18
  have h := Option.some.inj h19
  have hu := congrArg Prod.fst h
  have hv := congrArg Prod.snd h
  dsimp only at hu hv
  subst hu
  subst hv
  exact ⟨rfl, (tm_fill (hj rfl) (Lv := [(0, .one (.d false false (.prod (.int .i64) (.prod (.int .i64) (.prod (.int .i64) (.prod (.int .i64) (.prod (.int .i64) (.list (.prod (.int .i64) (.int .i64)))))))) q0)), (4, .one (.v false (.bool q1))), (5, .one (.d false false (.prod (.int .i64) (.prod (.int .i64) (.prod (.int .i64) (.prod (.int .i64) (.prod (.int .i64) (.list (.prod (.int .i64) (.int .i64)))))))) q2)), (27, .one (.v false (.int .i64 q3))), (28, .one (.v false (.int .i64 q4)))]) (by kernel_rfl) ⟨e0, e4, e5, e27, e28, trivial⟩).trans (by kernel_rfl), rfl⟩
theorem cot_read_ok (st : Stt) (u : cot_U) (v : cot_V) (h : cot_read st = some (u, v)) : cot_cok st = true ∧ staysA [] [0] st.own = true ∧ cot_can st = cot_St u v := by
  obtain ⟨h1, h2, h3⟩ := cot_rd_ok (fun hb => by rw [Bool.and_eq_true, Bool.and_eq_true] at hb; exact hb.2.2) h
  rw [Bool.and_eq_true, Bool.and_eq_true] at h1
  refine ⟨h1.1, h1.2.1, ?_⟩
  have e : cot_can st = ⟨(cot_can st).tm, (cot_can st).own, 1020⟩ := by kernel_rfl
  rw [e, h2, h3]
  rfl
noncomputable def cot_cond (u : cot_U) (v : cot_V) : Bool := runC (cot_step u) v
noncomputable def cot_g (u : cot_U) (v : cot_V) : Nat × cot_V := runG (cot_step u) v
theorem cot_hg : ∀ (u : cot_U) (v : cot_V), cot_cond u v = true → loopN (cot_step u) ((fun u v => runF (cot_step u) v) u v) v = some (cot_g u v) := by
  exact fun u v h => run_hg h
noncomputable def cot_m (st : Stt) : Option (Tr (Ex × Stt)) := sumM cot_read cot_cond cot_St cot_g [(0, .ret), (1, .exit 0)] st
noncomputable def coG_L51 : FuncId → Loops := addL 9 [0, 1, 0, 1, 1, 1, 1, 1] cot_m coF_L51
set_option maxRecDepth 100000 in
set_option maxHeartbeats 4000000 in
theorem coG_L51_ok : LoopsOK Try.prog coG_L51 :=
  loop_sumF (body := (bodyOf Try.prog 9)) (c := (loopOf (bodyOf Try.prog 9) [1, 1, 1, 1, 1, 0, 1, 0])) (kinds := [.ret, .exit 0]) (allow := [(0, .ret), (1, .exit 0)]) (St := cot_St) (step := cot_step) (W := [1, 2, 3, 6, 7, 8, 9, 10, 11, 12, 13, 14, 15, 16, 17, 18, 19, 20, 21, 22, 23, 24, 25, 26, 29, 30, 31, 32, 33, 34, 35, 36, 37, 38, 39, 40, 41, 42, 43, 44, 45, 46, 47, 48, 49, 50, 51, 52, 53, 54, 55, 56, 57, 58, 59, 60, 61, 62, 63]) (As := []) (ks := [0]) (dd := [0]) (nx := 1020) (n := 100000) (g := cot_g) (cond := cot_cond) (fuel := (fun u v => runF (cot_step u) v)) (read := cot_read) (by kernel_rfl) (coF_S52_ok) (coF_L51_ok) 7 ⟨Try.f9, by kernel_rfl, by kernel_rfl⟩ (by kernel_rfl) (by kernel_rfl) (by kernel_rfl) cot_step_eq cot_hg cot_read_ok
theorem lmt_len (v : Int) (L : List Opn) : (lmt v L).length = L.length := by unfold lmt; rw [List.length_map]
theorem cot_run {L : List Opn} (v : Int) (h : lOk L = true) : cot_cond (L, lmt v L, (L.length : Int)) (false, 0) = true ∧ cot_g (L, lmt v L, (L.length : Int)) (false, 0) = (1, (false, (L.length : Int))) := by
  obtain ⟨hL, hc⟩ := lOk_iff.1 h
  have R := run_steps (step := cot_step (L, lmt v L, (L.length : Int))) (St := fun j => (false, (j : Int))) (n := L.length) (t := (1, (false, (L.length : Int)))) (by
    simp only [cot_step, Tr.val, Int.lt_irrefl, decide_false, cond_false]) L.length 0 (Nat.zero_add _) (fun j _ hj => by
    have hj2 : j < (lmt v L).length := by rw [lmt_len]; exact hj
    have eo2 : el_iiiiilii (lmt v L) (j : Int) = lmo v L[j] := by rw [el_o hj2]; exact List.getElem_map (lmo v) (l := L) (h := hj2)
    have c3 : decide (List.length L[j].2.2.2.2.2 ≤ 1000) = true := decide_eq_true (hc j hj)
    have w1 := wi1 hj (show (L.length : Int) ≤ 9223372036854775806 by omega)
    cases hb : L[j].1 == (3 : Int)
    · have nb : (L[j].1 != (3 : Int)) = true := by show (!(L[j].1 == (3 : Int))) = true; rw [hb]; rfl
      have lm : lmo v L[j] = L[j] := by unfold lmo; rw [hb]; rfl
      simp only [cot_step, Tr.val, lt_t hj, lt_t hj2, nn_t, el_o hj, eo2, lm, nb, c3, eqN_refl, beq_self_eq_true, w1, Bool.not_true, Bool.and_self, cond_true, cond_false]
    · have nb : (L[j].1 != (3 : Int)) = false := by show (!(L[j].1 == (3 : Int))) = false; rw [hb]; rfl
      simp only [cot_step, Tr.val, lt_t hj, nn_t, el_o hj, nb, w1, Bool.and_self, cond_true, cond_false])
  exact R
theorem lmt_lmt (w v : Int) (L : List Opn) : lmt w (lmt v L) = lmt (min w v) L := by
  unfold lmt
  rw [List.map_map]
  refine List.map_congr_left fun o _ => ?_
  obtain ⟨a, b, c, d, s, cs⟩ := o
  show lmo w (lmo v (a, b, c, d, s, cs)) = lmo (min w v) (a, b, c, d, s, cs)
  unfold lmo
  cases hb : a == (3 : Int)
  · simp only [hb, cond_false]
  · simp only [hb, cond_true, oSp, oCs]
    rw [show min (min s v) w = min s (min w v) by omega]
theorem eno_lmt (L : List Opn) (mt v w : Int) : eno (lmt v L) mt w = eno L mt (min w v) := by
  unfold eno
  rw [lmt_lmt]
theorem rsV_is {L : List Opn} (hL : lOk L = true) (pi he wa tp bo pa sp re ga br sk dr fe tr rt mt mf nz bd : Int) (su : Bool) (hs : sv pi he wa tp bo pa sp su re ga br sk dr fe tr rt mt mf nz bd = true) : isSp L mt (slw mf pi) (slw fe pi) (rsV L pi he wa tp bo pa sp su re ga br sk dr fe tr rt mt mf nz bd) ∧ 1 ≤ slw mf pi := by
  obtain ⟨p, f, g⟩ := sv_sp hs
  obtain ⟨w1, a1, a2⟩ := slw_in p.1 g.1 (by omega)
  obtain ⟨w2, b1, b2⟩ := slw_in p.1 f.1 f.2
  have mo := slw_mono p.1 g.1 g.2
  exact ⟨(rsl_run hL (lo := slw mf pi) (hi := slw fe pi) pi he wa tp bo pa sp re ga br sk dr fe tr rt mt mf nz bd su a1 mo b2).2.2, a1⟩
theorem slow_again {L : List Opn} (hL : lOk L = true) (pi he wa tp bo pa sp re ga br sk dr fe tr rt mt mf nz bd : Int) (su : Bool) (hs : sv pi he wa tp bo pa sp su re ga br sk dr fe tr rt mt mf nz bd = true) : lmt (rsV (lmt (rsV L pi he wa tp bo pa sp su re ga br sk dr fe tr rt mt mf nz bd) L) pi he wa tp bo pa sp su re ga br sk dr fe tr rt mt mf nz bd) (lmt (rsV L pi he wa tp bo pa sp su re ga br sk dr fe tr rt mt mf nz bd) L) = lmt (rsV L pi he wa tp bo pa sp su re ga br sk dr fe tr rt mt mf nz bd) L := by
  obtain ⟨⟨a, b, c, d⟩, l1⟩ := rsV_is hL pi he wa tp bo pa sp re ga br sk dr fe tr rt mt mf nz bd su hs
  obtain ⟨⟨a', b', c', d'⟩, _⟩ := rsV_is (lmt_ok (v := rsV L pi he wa tp bo pa sp su re ga br sk dr fe tr rt mt mf nz bd) hL) pi he wa tp bo pa sp re ga br sk dr fe tr rt mt mf nz bd su hs
  rw [lmt_lmt]
  generalize rsV (lmt (rsV L pi he wa tp bo pa sp su re ga br sk dr fe tr rt mt mf nz bd) L) pi he wa tp bo pa sp su re ga br sk dr fe tr rt mt mf nz bd = w at *
  generalize rsV L pi he wa tp bo pa sp su re ga br sk dr fe tr rt mt mf nz bd = v at *
  have : v ≤ w := by
    rcases Int.lt_or_le w v with hlt | hle
    · exfalso
      have h1 : eno L mt (w + 1) = false := by
        rcases d' with d' | d'
        · omega
        · rw [eno_lmt, show min (w + 1) v = w + 1 by omega] at d'; exact d'
      have h2 : eno L mt v = true := by
        rcases c with c | c
        · omega
        · exact c
      have := eno_down (L := L) (mt := mt) (v := w + 1) (by omega) (v - (w + 1)).toNat (by rw [show w + 1 + ((v - (w + 1)).toNat : Int) = v by omega]; exact h2)
      rw [h1] at this; cases this
    · exact hle
  rw [show min w v = v by omega]
theorem tm_down {L : List Opn} {v : Int} (hv : 1 ≤ v) : ∀ k : Nat, tmL (lmt (v + k) L) ≤ tmL (lmt v L)
  | 0 => by simp
  | k + 1 => by
    have h1 := tm_down (L := L) hv k
    have h2 := tmL_anti (v := v + k) (by omega) L
    rw [show v + (k : Int) + 1 = v + ((k + 1 : Nat) : Int) by push_cast; omega] at h2
    omega
theorem slow_more {L : List Opn} {mt mt2 lo hi v w : Int} (h1 : 1 ≤ lo) (hm : mt ≤ mt2) (h : isSp L mt lo hi v) (g : isSp L mt2 lo hi w) : tmL (lmt v L) ≤ tmL (lmt w L) := by
  obtain ⟨a, b, c, d⟩ := h
  obtain ⟨a', b', c', d'⟩ := g
  have : w ≤ v := by
    rcases Int.lt_or_le v w with hlt | hle
    · exfalso
      have h1 : eno L mt (v + 1) = false := by
        rcases d with d | d
        · omega
        · exact d
      have h2 : eno L mt w = true := by
        rcases c' with c' | c'
        · omega
        · unfold eno at c' ⊢
          simp at c' ⊢
          omega
      have := eno_down (L := L) (mt := mt) (v := v + 1) (by omega) (w - (v + 1)).toNat (by rw [show v + 1 + ((w - (v + 1)).toNat : Int) = w by omega]; exact h2)
      rw [h1] at this; cases this
    · exact hle
  have := tm_down (L := L) (v := w) (by omega) (v - w).toNat
  rwa [show w + ((v - w).toNat : Int) = v by omega] at this
set_option maxRecDepth 100000 in
theorem law_CoolOthers_tree (L : (Ty.list (.prod (.int .i64) (.prod (.int .i64) (.prod (.int .i64) (.prod (.int .i64) (.prod (.int .i64) (.list (.prod (.int .i64) (.int .i64))))))))).den) (pi : Int) (he : Int) (wa : Int) (tp : Int) (bo : Int) (pa : Int) (sp : Int) (su : Bool) (re : Int) (ga : Int) (br : Int) (sk : Int) (dr : Int) (fe : Int) (tr : Int) (rt : Int) (mt : Int) (mf : Int) (nz : Int) (bd : Int) : evalF Try.prog coF_S52 (opens []) coG_L51 9 9 [.one (.d false false (.prod (.int .i64) (.prod (.int .i64) (.prod (.int .i64) (.prod (.int .i64) (.prod (.int .i64) (.list (.prod (.int .i64) (.int .i64)))))))) L), .ag [.v false (.int .i64 pi), .v false (.int .i64 he), .v false (.int .i64 wa), .v false (.int .i64 tp), .v false (.int .i64 bo), .v false (.int .i64 pa), .v false (.int .i64 sp), .v false (.bool su), .v false (.int .i64 re), .v false (.int .i64 ga), .v false (.int .i64 br), .v false (.int .i64 sk), .v false (.int .i64 dr), .v false (.int .i64 fe), .v false (.int .i64 tr), .v false (.int .i64 rt), .v false (.int .i64 mt), .v false (.int .i64 mf), .v false (.int .i64 nz), .v false (.int .i64 bd)]] = .br (((lOk (cfw L)) && (bif !sv pi he wa tp bo pa sp su re ga br sk dr fe tr rt mt mf nz bd then (lOk (bif sv pi he wa tp bo pa sp su re ga br sk dr fe tr rt mt mf nz bd then lmt (rsV (cfw L) pi he wa tp bo pa sp su re ga br sk dr fe tr rt mt mf nz bd) (cfw L) else cfw L) && sameL (bif sv pi he wa tp bo pa sp su re ga br sk dr fe tr rt mt mf nz bd then lmt (rsV (cfw L) pi he wa tp bo pa sp su re ga br sk dr fe tr rt mt mf nz bd) (cfw L) else cfw L) (cfw L)) else (bif (↑(List.length (bif sv pi he wa tp bo pa sp su re ga br sk dr fe tr rt mt mf nz bd then lmt (rsV (cfw L) pi he wa tp bo pa sp su re ga br sk dr fe tr rt mt mf nz bd) (cfw L) else cfw L)) : Int) != (↑(List.length (cfw L)) : Int) then true else ((cot_cond (cfw L, bif sv pi he wa tp bo pa sp su re ga br sk dr fe tr rt mt mf nz bd then lmt (rsV (cfw L) pi he wa tp bo pa sp su re ga br sk dr fe tr rt mt mf nz bd) (cfw L) else cfw L, (↑(List.length (cfw L)) : Int)) (false, (0 : Int))) && (bif Nat.beq (Prod.fst (cot_g (cfw L, bif sv pi he wa tp bo pa sp su re ga br sk dr fe tr rt mt mf nz bd then lmt (rsV (cfw L) pi he wa tp bo pa sp su re ga br sk dr fe tr rt mt mf nz bd) (cfw L) else cfw L, (↑(List.length (cfw L)) : Int)) (false, (0 : Int)))) (0 : Nat) then true else (Nat.beq (Prod.fst (cot_g (cfw L, bif sv pi he wa tp bo pa sp su re ga br sk dr fe tr rt mt mf nz bd then lmt (rsV (cfw L) pi he wa tp bo pa sp su re ga br sk dr fe tr rt mt mf nz bd) (cfw L) else cfw L, (↑(List.length (cfw L)) : Int)) (false, (0 : Int)))) (1 : Nat)))))))) (.ret (.one (.v false (.bool (bif !sv pi he wa tp bo pa sp su re ga br sk dr fe tr rt mt mf nz bd then true else bif (↑(List.length (bif sv pi he wa tp bo pa sp su re ga br sk dr fe tr rt mt mf nz bd then lmt (rsV (cfw L) pi he wa tp bo pa sp su re ga br sk dr fe tr rt mt mf nz bd) (cfw L) else cfw L)) : Int) != (↑(List.length (cfw L)) : Int) then false else bif Nat.beq (Prod.fst (cot_g (cfw L, bif sv pi he wa tp bo pa sp su re ga br sk dr fe tr rt mt mf nz bd then lmt (rsV (cfw L) pi he wa tp bo pa sp su re ga br sk dr fe tr rt mt mf nz bd) (cfw L) else cfw L, (↑(List.length (cfw L)) : Int)) (false, (0 : Int)))) (0 : Nat) then Prod.fst (Prod.snd (cot_g (cfw L, bif sv pi he wa tp bo pa sp su re ga br sk dr fe tr rt mt mf nz bd then lmt (rsV (cfw L) pi he wa tp bo pa sp su re ga br sk dr fe tr rt mt mf nz bd) (cfw L) else cfw L, (↑(List.length (cfw L)) : Int)) (false, (0 : Int)))) else true))))) (.bad 116) := by kernel_rfl
set_option maxHeartbeats 4000000 in
theorem law_CoolOthers_all (L : (Ty.list (.prod (.int .i64) (.prod (.int .i64) (.prod (.int .i64) (.prod (.int .i64) (.prod (.int .i64) (.list (.prod (.int .i64) (.int .i64))))))))).den) (pi : Int) (he : Int) (wa : Int) (tp : Int) (bo : Int) (pa : Int) (sp : Int) (su : Bool) (re : Int) (ga : Int) (br : Int) (sk : Int) (dr : Int) (fe : Int) (tr : Int) (rt : Int) (mt : Int) (mf : Int) (nz : Int) (bd : Int) (r0 : Ty.InR (.list (.prod (.int .i64) (.prod (.int .i64) (.prod (.int .i64) (.prod (.int .i64) (.prod (.int .i64) (.list (.prod (.int .i64) (.int .i64))))))))) L) (r1 : Ty.InR (.prod (.int .i64) (.prod (.int .i64) (.prod (.int .i64) (.prod (.int .i64) (.prod (.int .i64) (.prod (.int .i64) (.prod (.int .i64) (.prod .bool (.prod (.int .i64) (.prod (.int .i64) (.prod (.int .i64) (.prod (.int .i64) (.prod (.int .i64) (.prod (.int .i64) (.prod (.int .i64) (.prod (.int .i64) (.prod (.int .i64) (.prod (.int .i64) (.prod (.int .i64) (.int .i64)))))))))))))))))))) (pi, (he, (wa, (tp, (bo, (pa, (sp, (su, (re, (ga, (br, (sk, (dr, (fe, (tr, (rt, (mt, (mf, (nz, bd))))))))))))))))))))  : Tr.all (fun r => ∃ kn, r = AV.one (.v kn (.bool true))) (.br (((lOk (cfw L)) && (bif !sv pi he wa tp bo pa sp su re ga br sk dr fe tr rt mt mf nz bd then (lOk (bif sv pi he wa tp bo pa sp su re ga br sk dr fe tr rt mt mf nz bd then lmt (rsV (cfw L) pi he wa tp bo pa sp su re ga br sk dr fe tr rt mt mf nz bd) (cfw L) else cfw L) && sameL (bif sv pi he wa tp bo pa sp su re ga br sk dr fe tr rt mt mf nz bd then lmt (rsV (cfw L) pi he wa tp bo pa sp su re ga br sk dr fe tr rt mt mf nz bd) (cfw L) else cfw L) (cfw L)) else (bif (↑(List.length (bif sv pi he wa tp bo pa sp su re ga br sk dr fe tr rt mt mf nz bd then lmt (rsV (cfw L) pi he wa tp bo pa sp su re ga br sk dr fe tr rt mt mf nz bd) (cfw L) else cfw L)) : Int) != (↑(List.length (cfw L)) : Int) then true else ((cot_cond (cfw L, bif sv pi he wa tp bo pa sp su re ga br sk dr fe tr rt mt mf nz bd then lmt (rsV (cfw L) pi he wa tp bo pa sp su re ga br sk dr fe tr rt mt mf nz bd) (cfw L) else cfw L, (↑(List.length (cfw L)) : Int)) (false, (0 : Int))) && (bif Nat.beq (Prod.fst (cot_g (cfw L, bif sv pi he wa tp bo pa sp su re ga br sk dr fe tr rt mt mf nz bd then lmt (rsV (cfw L) pi he wa tp bo pa sp su re ga br sk dr fe tr rt mt mf nz bd) (cfw L) else cfw L, (↑(List.length (cfw L)) : Int)) (false, (0 : Int)))) (0 : Nat) then true else (Nat.beq (Prod.fst (cot_g (cfw L, bif sv pi he wa tp bo pa sp su re ga br sk dr fe tr rt mt mf nz bd then lmt (rsV (cfw L) pi he wa tp bo pa sp su re ga br sk dr fe tr rt mt mf nz bd) (cfw L) else cfw L, (↑(List.length (cfw L)) : Int)) (false, (0 : Int)))) (1 : Nat)))))))) (.ret (.one (.v false (.bool (bif !sv pi he wa tp bo pa sp su re ga br sk dr fe tr rt mt mf nz bd then true else bif (↑(List.length (bif sv pi he wa tp bo pa sp su re ga br sk dr fe tr rt mt mf nz bd then lmt (rsV (cfw L) pi he wa tp bo pa sp su re ga br sk dr fe tr rt mt mf nz bd) (cfw L) else cfw L)) : Int) != (↑(List.length (cfw L)) : Int) then false else bif Nat.beq (Prod.fst (cot_g (cfw L, bif sv pi he wa tp bo pa sp su re ga br sk dr fe tr rt mt mf nz bd then lmt (rsV (cfw L) pi he wa tp bo pa sp su re ga br sk dr fe tr rt mt mf nz bd) (cfw L) else cfw L, (↑(List.length (cfw L)) : Int)) (false, (0 : Int)))) (0 : Nat) then Prod.fst (Prod.snd (cot_g (cfw L, bif sv pi he wa tp bo pa sp su re ga br sk dr fe tr rt mt mf nz bd then lmt (rsV (cfw L) pi he wa tp bo pa sp su re ga br sk dr fe tr rt mt mf nz bd) (cfw L) else cfw L, (↑(List.length (cfw L)) : Int)) (false, (0 : Int)))) else true))))) (.bad 116)) := by
  obtain ⟨l1, n1⟩ := cfw_ok L
  cases hs : sv pi he wa tp bo pa sp su re ga br sk dr fe tr rt mt mf nz bd
  · simp only [l1, sameL_refl, Bool.not_false, cond_true, cond_false, Bool.and_self]
    exact ⟨fun _ => ⟨_, rfl⟩, fun h => by cases h⟩
  · obtain ⟨q1, q2⟩ := cot_run (rsV (cfw L) pi he wa tp bo pa sp su re ga br sk dr fe tr rt mt mf nz bd) l1
    simp only [l1, lmt_len, q1, q2, bne_self_eq_false, Nat.beq, Bool.not_true, cond_true, cond_false, Bool.and_self]
    exact ⟨fun _ => ⟨_, rfl⟩, fun h => by cases h⟩
set_option maxHeartbeats 4000000 in
theorem law_CoolOthers (v0 : Value) (x0 : ((.list (.prod (.int .i64) (.prod (.int .i64) (.prod (.int .i64) (.prod (.int .i64) (.prod (.int .i64) (.list (.prod (.int .i64) (.int .i64))))))))) : Ty).den) (r0 : Ty.InR (.list (.prod (.int .i64) (.prod (.int .i64) (.prod (.int .i64) (.prod (.int .i64) (.prod (.int .i64) (.list (.prod (.int .i64) (.int .i64))))))))) x0) (v1 : Value) (x1 : ((.prod (.int .i64) (.prod (.int .i64) (.prod (.int .i64) (.prod (.int .i64) (.prod (.int .i64) (.prod (.int .i64) (.prod (.int .i64) (.prod .bool (.prod (.int .i64) (.prod (.int .i64) (.prod (.int .i64) (.prod (.int .i64) (.prod (.int .i64) (.prod (.int .i64) (.prod (.int .i64) (.prod (.int .i64) (.prod (.int .i64) (.prod (.int .i64) (.prod (.int .i64) (.int .i64)))))))))))))))))))) : Ty).den) (r1 : Ty.InR (.prod (.int .i64) (.prod (.int .i64) (.prod (.int .i64) (.prod (.int .i64) (.prod (.int .i64) (.prod (.int .i64) (.prod (.int .i64) (.prod .bool (.prod (.int .i64) (.prod (.int .i64) (.prod (.int .i64) (.prod (.int .i64) (.prod (.int .i64) (.prod (.int .i64) (.prod (.int .i64) (.prod (.int .i64) (.prod (.int .i64) (.prod (.int .i64) (.prod (.int .i64) (.int .i64)))))))))))))))))))) x1) (z_w : World) (i0 : (AV.one (.d false false (.prod (.int .i64) (.prod (.int .i64) (.prod (.int .i64) (.prod (.int .i64) (.prod (.int .i64) (.list (.prod (.int .i64) (.int .i64)))))))) x0)).is [] (fun _ => none) (fun b => b < z_w.heap.size) z_w v0) (i1 : (AV.ag (Ty.cells false (.prod (.int .i64) (.prod (.int .i64) (.prod (.int .i64) (.prod (.int .i64) (.prod (.int .i64) (.prod (.int .i64) (.prod (.int .i64) (.prod .bool (.prod (.int .i64) (.prod (.int .i64) (.prod (.int .i64) (.prod (.int .i64) (.prod (.int .i64) (.prod (.int .i64) (.prod (.int .i64) (.prod (.int .i64) (.prod (.int .i64) (.prod (.int .i64) (.prod (.int .i64) (.int .i64)))))))))))))))))))) x1)).is [] (fun _ => none) (fun b => b < z_w.heap.size) z_w v1) : Calls Try.prog 9 #[v0, v1] z_w fun e w' => e = .returned (.bool true) ∧ Ext z_w w' := by
  obtain ⟨L, rfl⟩ : ∃ y, y = x0 := ⟨_, rfl⟩
  obtain ⟨pi, ⟨he, ⟨wa, ⟨tp, ⟨bo, ⟨pa, ⟨sp, ⟨su, ⟨re, ⟨ga, ⟨br, ⟨sk, ⟨dr, ⟨fe, ⟨tr, ⟨rt, ⟨mt, ⟨mf, ⟨nz, bd⟩⟩⟩⟩⟩⟩⟩⟩⟩⟩⟩⟩⟩⟩⟩⟩⟩⟩⟩ := x1
  refine law_of_tree (by kernel_rfl) (coF_S52_ok) (coG_L51_ok) (law_CoolOthers_tree L pi he wa tp bo pa sp su re ga br sk dr fe tr rt mt mf nz bd) (law_CoolOthers_all L pi he wa tp bo pa sp su re ga br sk dr fe tr rt mt mf nz bd r0 r1 ) rfl z_w _ _ (fun _ h => h) ⟨_, _, rfl, i0, ⟨_, _, rfl, i1, rfl⟩⟩
end Go.Proofs.Ytbmdbejoignenaa
