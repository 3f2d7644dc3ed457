/-
  Layer 35: the law FlowExact.
-/
import Derived.Test.YtpobbjgiglcecaaProg
import Derived.Test.YtpobbjgiglcecaaFvX
import Derived.Test.YtpobbjgiglcecaaFvZ
import Derived.Test.YtpobbjgiglcecaaAut
import Derived.Test.YtpobbjgiglcecaaRd
import Derived.Test.YtpobbjgiglcecaaPl
import Derived.Test.YtpobbjgiglcecaaFlA
import Derived.Test.YtpobbjgiglcecaaFlB
import Derived.Test.YtpobbjgiglcecaaFlC
import Derived.Test.YtpobbjgiglcecaaFlM
import Derived.Test.YtpobbjgiglcecaaFlD
import Derived.Test.YtpobbjgiglcecaaFlE
namespace Go.Proofs.Ytpobbjgiglcecaa
open Go
section
variable {L : OpL} {pi he wa tp bo pa sp : Int} {su : Bool} {re ga br sk dr fe tr rt mt mf nz bd : Int}
theorem ex_test (hs : sv pi he wa tp bo pa sp su re ga br sk dr fe tr rt mt mf nz bd = true) {n : Int} (h0 : 0 ≤ n) (h1 : n ≤ 1048576) :
    (bif decide (IntKind.wrap IntKind.i64 (IntKind.wrap IntKind.i64 (pos pi he dr rt n true + rt) * dr) > IntKind.wrap IntKind.i64 (IntKind.wrap IntKind.i64 (IntKind.wrap IntKind.i64 (n * pi) * pi) * he)) then true else decide (IntKind.wrap IntKind.i64 (IntKind.wrap IntKind.i64 (pos pi he dr rt n true + rt) * dr) ≤ IntKind.wrap IntKind.i64 (IntKind.wrap IntKind.i64 (IntKind.wrap IntKind.i64 (IntKind.wrap IntKind.i64 (n * pi) * pi) * he) - dr))) = false ∧
    (bif decide (IntKind.wrap IntKind.i64 (pos pi he dr rt n false * dr) > IntKind.wrap IntKind.i64 (IntKind.wrap IntKind.i64 (IntKind.wrap IntKind.i64 (n * pi) * pi) * he)) then true else decide (IntKind.wrap IntKind.i64 (pos pi he dr rt n false * dr) ≤ IntKind.wrap IntKind.i64 (IntKind.wrap IntKind.i64 (IntKind.wrap IntKind.i64 (IntKind.wrap IntKind.i64 (n * pi) * pi) * he) - dr))) = false := by
  obtain ⟨s1, s2, s3, s4, _⟩ := sv_in hs
  have V := vol_in s1 s2 ⟨h0, h1⟩
  rw [V.1]
  have q1 : vol pi he n / dr ≤ vol pi he n := Int.ediv_le_self _ V.2.1
  have q0 : 0 ≤ vol pi he n / dr := Int.ediv_nonneg V.2.1 (by omega)
  have a1 : vol pi he n / dr * dr ≤ vol pi he n := Int.ediv_mul_le _ (by omega)
  have a2 : vol pi he n < (vol pi he n / dr + 1) * dr := Int.lt_ediv_add_one_mul_self _ (by omega)
  have a3 : (vol pi he n / dr + 1) * dr = vol pi he n / dr * dr + dr := by rw [Int.add_mul, Int.one_mul]
  have a0 : 0 ≤ vol pi he n / dr * dr := Int.mul_nonneg q0 (by omega)
  have p1 : pos pi he dr rt n true + rt = vol pi he n / dr := by unfold pos; rw [cond_true]; omega
  have p2 : pos pi he dr rt n false = vol pi he n / dr := rfl
  have w0 : IntKind.wrap IntKind.i64 (vol pi he n / dr) = vol pi he n / dr := wid (by omega) (by omega)
  have w1 : IntKind.wrap IntKind.i64 (vol pi he n / dr * dr) = vol pi he n / dr * dr := wid (by omega) (by omega)
  have w2 : IntKind.wrap IntKind.i64 (vol pi he n - dr) = vol pi he n - dr := wid (by omega) (by omega)
  rw [p1, p2, w0, w1, w2, decide_eq_false (show ¬ vol pi he n / dr * dr > vol pi he n by omega), decide_eq_false (show ¬ vol pi he n / dr * dr ≤ vol pi he n - dr by omega)]
  exact ⟨rfl, rfl⟩
theorem lex_run (hs : sv pi he wa tp bo pa sp su re ga br sk dr fe tr rt mt mf nz bd = true) (ho : opsOk L = true) (hk : amOk L = true) : lex_cond (L, tab L.length (pz pi he dr rt L), pi, he, wa, tp, bo, pa, sp, su, re, ga, br, sk, dr, fe, tr, rt, mt, mf, nz, bd) (false, (0 : Int), false, (0 : Int)) = true ∧ ∃ x y, lex_g (L, tab L.length (pz pi he dr rt L), pi, he, wa, tp, bo, pa, sp, su, re, ga, br, sk, dr, fe, tr, rt, mt, mf, nz, bd) (false, (0 : Int), false, (0 : Int)) = (1, (false, x, y, (L.length : Int))) := by
  obtain ⟨hL, hc⟩ := opsOk_of ho
  have hz : ∀ k, k < L.length → bad35 L k = false := fun k hk' => by
    obtain ⟨_, _, g3, _⟩ := firstB_spec (bad35 L) L.length 0
    unfold amOk amF at hk
    have : ¬ firstB (bad35 L) L.length 0 < L.length := by simpa using hk
    exact g3 k (by omega) (by omega)
  have := run_steps (step := lex_step (L, tab L.length (pz pi he dr rt L), pi, he, wa, tp, bo, pa, sp, su, re, ga, br, sk, dr, fe, tr, rt, mt, mf, nz, bd)) (St := fun j => (false, (nb35 L j).1, (nb35 L j).2, (j : Int))) (n := L.length) (t := (1, (false, (nb35 L L.length).1, (nb35 L L.length).2, (L.length : Int)))) (by simp only [lex_step, Tr.val, Int.lt_irrefl, decide_false, cond_false]) L.length 0 (Nat.zero_add _) (fun j _ hj => by
    have N := nb_in hc (Nat.le_of_lt hj) fun k hk' => hz k (by omega)
    have N2 := nb_in hc (j := j + 1) (by omega) fun k hk' => hz k (by omega)
    obtain ⟨T1, F1⟩ := ex_test hs N.1 N.2
    obtain ⟨T2, F2⟩ := ex_test hs N2.1 N2.2
    have c1 : decide ((j : Int) < (L.length : Int)) = true := decide_eq_true (by omega)
    have c2 : decide ((0 : Int) ≤ (j : Int)) = true := decide_eq_true (by omega)
    have w1 : IntKind.wrap IntKind.i64 ((j : Int) + 1) = ((j + 1 : Nat) : Int) := by rw [wid (by omega) (by omega)]; omega
    have hcj := hc j hj
    have hc0 : 0 ≤ cn L j := by unfold cn; omega
    have f1 : Prod.fst (el_iiiiilii L (j : Int)) = kd L j := rfl
    have f2 : ((List.length (Prod.snd (Prod.snd (Prod.snd (Prod.snd (Prod.snd (el_iiiiilii L (j : Int))))))) : Nat) : Int) = cn L j := rfl
    have w2 : IntKind.wrap IntKind.i64 ((nb35 L j).1 + cn L j) = (nb35 L j).1 + cn L j := wid (by omega) (by omega)
    have g1 : el_i (tab L.length (pz pi he dr rt L)) (j : Int) = pos pi he dr rt (nb35 L (j + 1)).1 (nb35 L (j + 1)).2 := by
      unfold el_i; rw [elm_nat]; exact tab_getD _ hj
    simp only [lex_step, Tr.val, c1, c2, w1, f1, f2, w2, g1, tab_length, Bool.and_self, cond_true]
    have e1 : (nb35 L (j + 1)).1 = nK (kd L j) (cn L j) (nb35 L j).1 := rfl
    have e2 : (nb35 L (j + 1)).2 = bK (kd L j) (nb35 L j).2 := rfl
    rw [e1] at T2 F2
    rw [e1, e2]
    clear e1 e2 g1 N2
    unfold nK at T2 F2
    unfold nK bK
    clear hz
    generalize kd L j = k at *
    generalize cn L j = c at *
    generalize (nb35 L j).2 = b at *
    generalize (nb35 L j).1 = n at *
    by_cases k3 : k = 3
    · subst k3
      have z3 : ((3 : Int) == 3) = true := rfl
      have z4 : ((3 : Int) == 4) = false := rfl
      have z5 : ((3 : Int) == 5) = false := rfl
      simp only [z3, z4, z5, cond_true, cond_false] at T2 F2 ⊢
      cases b <;> simp only [T2, F2, cond_true, cond_false]
    · have z3 : (k == 3) = false := beq_f k3
      by_cases k4 : k = 4
      · subst k4
        have z4 : ((4 : Int) == 4) = true := rfl
        have z5 : ((4 : Int) == 5) = false := rfl
        simp only [z3, z4, z5, cond_true, cond_false] at T2 F2 ⊢
        simp only [T1, cond_false]
      · have z4 : (k == 4) = false := beq_f k4
        by_cases k5 : k = 5
        · subst k5
          have z5 : ((5 : Int) == 5) = true := rfl
          simp only [z3, z4, z5, cond_true, cond_false] at T2 F2 ⊢
          simp only [F1, cond_false]
        · have z5 : (k == 5) = false := beq_f k5
          simp only [z3, z4, z5, cond_false] at T2 F2 ⊢
          cases b <;> simp only [T1, F1, cond_true, cond_false])
  exact ⟨this.1, _, _, this.2⟩
end
set_option maxRecDepth 100000 in
theorem law_FlowExact_tree (L : (Ty.list (.prod (.int .i64) (.prod (.int .i64) (.prod (.int .i64) (.prod (.int .i64) (.prod (.int .i64) (.list (.prod (.int .i64) (.int .i64))))))))).den) (pi : Int) (he : Int) (wa : Int) (tp : Int) (bo : Int) (pa : Int) (sp : Int) (su : Bool) (re : Int) (ga : Int) (br : Int) (sk : Int) (dr : Int) (fe : Int) (tr : Int) (rt : Int) (mt : Int) (mf : Int) (nz : Int) (bd : Int) : evalF Try.prog flD_S64 (opens []) flE_L61 9 6 [.one (.d false false (.prod (.int .i64) (.prod (.int .i64) (.prod (.int .i64) (.prod (.int .i64) (.prod (.int .i64) (.list (.prod (.int .i64) (.int .i64)))))))) L), .ag [.v false (.int .i64 pi), .v false (.int .i64 he), .v false (.int .i64 wa), .v false (.int .i64 tp), .v false (.int .i64 bo), .v false (.int .i64 pa), .v false (.int .i64 sp), .v false (.bool su), .v false (.int .i64 re), .v false (.int .i64 ga), .v false (.int .i64 br), .v false (.int .i64 sk), .v false (.int .i64 dr), .v false (.int .i64 fe), .v false (.int .i64 tr), .v false (.int .i64 rt), .v false (.int .i64 mt), .v false (.int .i64 mf), .v false (.int .i64 nz), .v false (.int .i64 bd)]] = .br (((lenOk L) && ((opsOk (fewL L)) && (bif (bif sv pi he wa tp bo pa sp su re ga br sk dr fe tr rt mt mf nz bd then amC (fewL L) else (1 : Int)) != (0 : Int) then true else (bif (↑(List.length (bif sv pi he wa tp bo pa sp su re ga br sk dr fe tr rt mt mf nz bd then amL pi he dr rt (fewL L) else [])) : Int) != (↑(List.length (fewL L)) : Int) then true else ((lex_cond (fewL L, bif sv pi he wa tp bo pa sp su re ga br sk dr fe tr rt mt mf nz bd then amL pi he dr rt (fewL L) else [], pi, he, wa, tp, bo, pa, sp, su, re, ga, br, sk, dr, fe, tr, rt, mt, mf, nz, bd) (false, (0 : Int), false, (0 : Int))) && (bif Nat.beq (Prod.fst (lex_g (fewL L, bif sv pi he wa tp bo pa sp su re ga br sk dr fe tr rt mt mf nz bd then amL pi he dr rt (fewL L) else [], pi, he, wa, tp, bo, pa, sp, su, re, ga, br, sk, dr, fe, tr, rt, mt, mf, nz, bd) (false, (0 : Int), false, (0 : Int)))) (0 : Nat) then true else (Nat.beq (Prod.fst (lex_g (fewL L, bif sv pi he wa tp bo pa sp su re ga br sk dr fe tr rt mt mf nz bd then amL pi he dr rt (fewL L) else [], pi, he, wa, tp, bo, pa, sp, su, re, ga, br, sk, dr, fe, tr, rt, mt, mf, nz, bd) (false, (0 : Int), false, (0 : Int)))) (1 : Nat))))))))) (.ret (.one (.v false (.bool (bif (bif sv pi he wa tp bo pa sp su re ga br sk dr fe tr rt mt mf nz bd then amC (fewL L) else (1 : Int)) != (0 : Int) then bif (↑(List.length (bif sv pi he wa tp bo pa sp su re ga br sk dr fe tr rt mt mf nz bd then amL pi he dr rt (fewL L) else [])) : Int) == (0 : Int) then true else false else bif (↑(List.length (bif sv pi he wa tp bo pa sp su re ga br sk dr fe tr rt mt mf nz bd then amL pi he dr rt (fewL L) else [])) : Int) != (↑(List.length (fewL L)) : Int) then false else bif Nat.beq (Prod.fst (lex_g (fewL L, bif sv pi he wa tp bo pa sp su re ga br sk dr fe tr rt mt mf nz bd then amL pi he dr rt (fewL L) else [], pi, he, wa, tp, bo, pa, sp, su, re, ga, br, sk, dr, fe, tr, rt, mt, mf, nz, bd) (false, (0 : Int), false, (0 : Int)))) (0 : Nat) then Prod.fst (Prod.snd (lex_g (fewL L, bif sv pi he wa tp bo pa sp su re ga br sk dr fe tr rt mt mf nz bd then amL pi he dr rt (fewL L) else [], pi, he, wa, tp, bo, pa, sp, su, re, ga, br, sk, dr, fe, tr, rt, mt, mf, nz, bd) (false, (0 : Int), false, (0 : Int)))) else bif (↑(List.length (bif sv pi he wa tp bo pa sp su re ga br sk dr fe tr rt mt mf nz bd then amL pi he dr rt (fewL L) else [])) : Int) == (↑(List.length (fewL L)) : Int) then true else false))))) (.bad 116) := by kernel_rfl
set_option maxHeartbeats 4000000 in
theorem law_FlowExact_all (L : (Ty.list (.prod (.int .i64) (.prod (.int .i64) (.prod (.int .i64) (.prod (.int .i64) (.prod (.int .i64) (.list (.prod (.int .i64) (.int .i64))))))))).den) (pi : Int) (he : Int) (wa : Int) (tp : Int) (bo : Int) (pa : Int) (sp : Int) (su : Bool) (re : Int) (ga : Int) (br : Int) (sk : Int) (dr : Int) (fe : Int) (tr : Int) (rt : Int) (mt : Int) (mf : Int) (nz : Int) (bd : Int) (r0 : Ty.InR (.list (.prod (.int .i64) (.prod (.int .i64) (.prod (.int .i64) (.prod (.int .i64) (.prod (.int .i64) (.list (.prod (.int .i64) (.int .i64))))))))) L) (r1 : Ty.InR (.prod (.int .i64) (.prod (.int .i64) (.prod (.int .i64) (.prod (.int .i64) (.prod (.int .i64) (.prod (.int .i64) (.prod (.int .i64) (.prod .bool (.prod (.int .i64) (.prod (.int .i64) (.prod (.int .i64) (.prod (.int .i64) (.prod (.int .i64) (.prod (.int .i64) (.prod (.int .i64) (.prod (.int .i64) (.prod (.int .i64) (.prod (.int .i64) (.prod (.int .i64) (.int .i64)))))))))))))))))))) (pi, (he, (wa, (tp, (bo, (pa, (sp, (su, (re, (ga, (br, (sk, (dr, (fe, (tr, (rt, (mt, (mf, (nz, bd))))))))))))))))))))  : Tr.all (fun r => ∃ kn, r = AV.one (.v kn (.bool true))) (.br (((lenOk L) && ((opsOk (fewL L)) && (bif (bif sv pi he wa tp bo pa sp su re ga br sk dr fe tr rt mt mf nz bd then amC (fewL L) else (1 : Int)) != (0 : Int) then true else (bif (↑(List.length (bif sv pi he wa tp bo pa sp su re ga br sk dr fe tr rt mt mf nz bd then amL pi he dr rt (fewL L) else [])) : Int) != (↑(List.length (fewL L)) : Int) then true else ((lex_cond (fewL L, bif sv pi he wa tp bo pa sp su re ga br sk dr fe tr rt mt mf nz bd then amL pi he dr rt (fewL L) else [], pi, he, wa, tp, bo, pa, sp, su, re, ga, br, sk, dr, fe, tr, rt, mt, mf, nz, bd) (false, (0 : Int), false, (0 : Int))) && (bif Nat.beq (Prod.fst (lex_g (fewL L, bif sv pi he wa tp bo pa sp su re ga br sk dr fe tr rt mt mf nz bd then amL pi he dr rt (fewL L) else [], pi, he, wa, tp, bo, pa, sp, su, re, ga, br, sk, dr, fe, tr, rt, mt, mf, nz, bd) (false, (0 : Int), false, (0 : Int)))) (0 : Nat) then true else (Nat.beq (Prod.fst (lex_g (fewL L, bif sv pi he wa tp bo pa sp su re ga br sk dr fe tr rt mt mf nz bd then amL pi he dr rt (fewL L) else [], pi, he, wa, tp, bo, pa, sp, su, re, ga, br, sk, dr, fe, tr, rt, mt, mf, nz, bd) (false, (0 : Int), false, (0 : Int)))) (1 : Nat))))))))) (.ret (.one (.v false (.bool (bif (bif sv pi he wa tp bo pa sp su re ga br sk dr fe tr rt mt mf nz bd then amC (fewL L) else (1 : Int)) != (0 : Int) then bif (↑(List.length (bif sv pi he wa tp bo pa sp su re ga br sk dr fe tr rt mt mf nz bd then amL pi he dr rt (fewL L) else [])) : Int) == (0 : Int) then true else false else bif (↑(List.length (bif sv pi he wa tp bo pa sp su re ga br sk dr fe tr rt mt mf nz bd then amL pi he dr rt (fewL L) else [])) : Int) != (↑(List.length (fewL L)) : Int) then false else bif Nat.beq (Prod.fst (lex_g (fewL L, bif sv pi he wa tp bo pa sp su re ga br sk dr fe tr rt mt mf nz bd then amL pi he dr rt (fewL L) else [], pi, he, wa, tp, bo, pa, sp, su, re, ga, br, sk, dr, fe, tr, rt, mt, mf, nz, bd) (false, (0 : Int), false, (0 : Int)))) (0 : Nat) then Prod.fst (Prod.snd (lex_g (fewL L, bif sv pi he wa tp bo pa sp su re ga br sk dr fe tr rt mt mf nz bd then amL pi he dr rt (fewL L) else [], pi, he, wa, tp, bo, pa, sp, su, re, ga, br, sk, dr, fe, tr, rt, mt, mf, nz, bd) (false, (0 : Int), false, (0 : Int)))) else bif (↑(List.length (bif sv pi he wa tp bo pa sp su re ga br sk dr fe tr rt mt mf nz bd then amL pi he dr rt (fewL L) else [])) : Int) == (↑(List.length (fewL L)) : Int) then true else false))))) (.bad 116)) := by
  have hl : lenOk L = true := decide_eq_true r0.1
  have ho := few_ok L
  have z1 : Nat.beq 1 0 = false := rfl
  have z2 : Nat.beq 1 1 = true := rfl
  cases hs : sv pi he wa tp bo pa sp su re ga br sk dr fe tr rt mt mf nz bd
  · have d : ((1 : Int) != 0) = true := rfl
    have d2 : (((0 : Nat) : Int) == 0) = true := rfl
    simp only [hl, ho, d, d2, cond_true, cond_false, List.length_nil, Bool.and_self]
    exact ⟨fun _ => ⟨_, rfl⟩, fun h => by cases h⟩
  · simp only [hl, ho, cond_true, Bool.true_and]
    cases hk : amOk (fewL L)
    · have e1 : amL pi he dr rt (fewL L) = [] := by unfold amL; rw [hk]; rfl
      have e2 : (amC (fewL L) != 0) = true := by
        unfold amC; rw [hk]
        cases ordK (kd (fewL L) (amF (fewL L))) (nb35 (fewL L) (amF (fewL L))).2 <;> rfl
      have d2 : (((0 : Nat) : Int) == 0) = true := rfl
      simp only [e1, e2, d2, cond_true, List.length_nil]
      exact ⟨fun _ => ⟨_, rfl⟩, fun h => by cases h⟩
    · have e1 : amL pi he dr rt (fewL L) = tab (fewL L).length (pz pi he dr rt (fewL L)) := by unfold amL; rw [hk]; rfl
      have e2 : (amC (fewL L) != 0) = false := by unfold amC; rw [hk]; rfl
      obtain ⟨r1, x, y, r2⟩ := lex_run hs ho hk
      simp only [e1, e2, tab_length, bne_self_eq_false, beq_self_eq_true, r1, r2, z1, z2, cond_true, cond_false, Bool.and_self]
      exact ⟨fun _ => ⟨_, rfl⟩, fun h => by cases h⟩
set_option maxHeartbeats 4000000 in
theorem law_FlowExact (v0 : Value) (x0 : ((.list (.prod (.int .i64) (.prod (.int .i64) (.prod (.int .i64) (.prod (.int .i64) (.prod (.int .i64) (.list (.prod (.int .i64) (.int .i64))))))))) : Ty).den) (r0 : Ty.InR (.list (.prod (.int .i64) (.prod (.int .i64) (.prod (.int .i64) (.prod (.int .i64) (.prod (.int .i64) (.list (.prod (.int .i64) (.int .i64))))))))) x0) (v1 : Value) (x1 : ((.prod (.int .i64) (.prod (.int .i64) (.prod (.int .i64) (.prod (.int .i64) (.prod (.int .i64) (.prod (.int .i64) (.prod (.int .i64) (.prod .bool (.prod (.int .i64) (.prod (.int .i64) (.prod (.int .i64) (.prod (.int .i64) (.prod (.int .i64) (.prod (.int .i64) (.prod (.int .i64) (.prod (.int .i64) (.prod (.int .i64) (.prod (.int .i64) (.prod (.int .i64) (.int .i64)))))))))))))))))))) : Ty).den) (r1 : Ty.InR (.prod (.int .i64) (.prod (.int .i64) (.prod (.int .i64) (.prod (.int .i64) (.prod (.int .i64) (.prod (.int .i64) (.prod (.int .i64) (.prod .bool (.prod (.int .i64) (.prod (.int .i64) (.prod (.int .i64) (.prod (.int .i64) (.prod (.int .i64) (.prod (.int .i64) (.prod (.int .i64) (.prod (.int .i64) (.prod (.int .i64) (.prod (.int .i64) (.prod (.int .i64) (.int .i64)))))))))))))))))))) x1) (z_w : World) (i0 : (AV.one (.d false false (.prod (.int .i64) (.prod (.int .i64) (.prod (.int .i64) (.prod (.int .i64) (.prod (.int .i64) (.list (.prod (.int .i64) (.int .i64)))))))) x0)).is [] (fun _ => none) (fun b => b < z_w.heap.size) z_w v0) (i1 : (AV.ag (Ty.cells false (.prod (.int .i64) (.prod (.int .i64) (.prod (.int .i64) (.prod (.int .i64) (.prod (.int .i64) (.prod (.int .i64) (.prod (.int .i64) (.prod .bool (.prod (.int .i64) (.prod (.int .i64) (.prod (.int .i64) (.prod (.int .i64) (.prod (.int .i64) (.prod (.int .i64) (.prod (.int .i64) (.prod (.int .i64) (.prod (.int .i64) (.prod (.int .i64) (.prod (.int .i64) (.int .i64)))))))))))))))))))) x1)).is [] (fun _ => none) (fun b => b < z_w.heap.size) z_w v1) : Calls Try.prog 6 #[v0, v1] z_w fun e w' => e = .returned (.bool true) ∧ Ext z_w w' := by
  obtain ⟨L, rfl⟩ : ∃ y, y = x0 := ⟨_, rfl⟩
  obtain ⟨pi, ⟨he, ⟨wa, ⟨tp, ⟨bo, ⟨pa, ⟨sp, ⟨su, ⟨re, ⟨ga, ⟨br, ⟨sk, ⟨dr, ⟨fe, ⟨tr, ⟨rt, ⟨mt, ⟨mf, ⟨nz, bd⟩⟩⟩⟩⟩⟩⟩⟩⟩⟩⟩⟩⟩⟩⟩⟩⟩⟩⟩ := x1
  refine law_of_tree (by kernel_rfl) (flD_S64_ok) (flE_L61_ok) (law_FlowExact_tree L pi he wa tp bo pa sp su re ga br sk dr fe tr rt mt mf nz bd) (law_FlowExact_all L pi he wa tp bo pa sp su re ga br sk dr fe tr rt mt mf nz bd r0 r1 ) rfl z_w _ _ (fun _ h => h) ⟨_, _, rfl, i0, ⟨_, _, rfl, i1, rfl⟩⟩
end Go.Proofs.Ytpobbjgiglcecaa
