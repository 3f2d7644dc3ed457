/-
  Layer 35: volumes, positions.
-/
import Derived.Test.YtfceajcfackidaaProg
import Derived.Test.YtfceajcfackidaaFvX
import Derived.Test.YtfceajcfackidaaFvZ
import Derived.Test.YtfceajcfackidaaAut
import Derived.Test.YtfceajcfackidaaRd
import Derived.Test.YtfceajcfackidaaPl
import Derived.Test.YtfceajcfackidaaFlA
namespace Go.Proofs.Ytfceajcfackidaa
open Go
theorem sv_iff {pi he wa tp bo pa sp : Int} {su : Bool} {re ga br sk dr fe tr rt mt mf nz bd : Int} : sv pi he wa tp bo pa sp su re ga br sk dr fe tr rt mt mf nz bd = true ↔ svP pi he wa tp bo pa sp su re ga br sk dr fe tr rt mt mf nz bd := decide_eq_true_iff
theorem sv_in {pi he wa tp bo pa sp : Int} {su : Bool} {re ga br sk dr fe tr rt mt mf nz bd : Int} (h : sv pi he wa tp bo pa sp su re ga br sk dr fe tr rt mt mf nz bd = true) : (32 ≤ pi ∧ pi ≤ 1024) ∧ (4 ≤ he ∧ he ≤ 1024) ∧ (1 ≤ dr ∧ dr ≤ 1073741824) ∧ (0 ≤ rt ∧ rt ≤ 65536) ∧ (1 ≤ fe ∧ fe ≤ 1048576) ∧ (1 ≤ mf ∧ mf ≤ fe) ∧ (0 ≤ mt ∧ mt ≤ 1048576) := by
  have := sv_iff.1 h
  unfold svP at this
  omega
def vol (pi he n : Int) : Int := n * pi * pi * he
theorem vol_in {pi he n : Int} (h1 : 32 ≤ pi ∧ pi ≤ 1024) (h2 : 4 ≤ he ∧ he ≤ 1024) (h3 : 0 ≤ n ∧ n ≤ 1048576) : IntKind.wrap IntKind.i64 (IntKind.wrap IntKind.i64 (IntKind.wrap IntKind.i64 (n * pi) * pi) * he) = vol pi he n ∧ 0 ≤ vol pi he n ∧ vol pi he n ≤ 1125899906842624 := by
  have b : ∀ {x y X Y : Int}, 0 ≤ x ∧ x ≤ X → 0 ≤ y ∧ y ≤ Y → 0 ≤ x * y ∧ x * y ≤ X * Y := fun h g => ⟨Int.mul_nonneg h.1 g.1, Int.mul_le_mul h.2 g.2 g.1 (by omega)⟩
  have a1 := b (x := n) (y := pi) (X := 1048576) (Y := 1024) h3 ⟨by omega, by omega⟩
  have a2 := b (x := n * pi) (y := pi) (X := 1073741824) (Y := 1024) (by omega) ⟨by omega, by omega⟩
  have a3 := b (x := n * pi * pi) (y := he) (X := 1099511627776) (Y := 1024) (by omega) ⟨by omega, by omega⟩
  unfold vol
  have w1 : IntKind.wrap IntKind.i64 (n * pi) = n * pi := wid (by omega) (by omega)
  have w2 : IntKind.wrap IntKind.i64 (n * pi * pi) = n * pi * pi := wid (by omega) (by omega)
  have w3 : IntKind.wrap IntKind.i64 (n * pi * pi * he) = n * pi * pi * he := wid (by omega) (by omega)
  rw [w1, w2, w3]
  exact ⟨rfl, by omega, by omega⟩
theorem tdiv_nn {a b : Int} (ha : 0 ≤ a) : Int.tdiv a b = a / b := Int.tdiv_eq_ediv_of_nonneg ha
theorem tmod_nn {a b : Int} (ha : 0 ≤ a) : Int.tmod a b = a % b := Int.tmod_eq_emod_of_nonneg ha
set_option maxRecDepth 100000 in
theorem vo_tree (n : Int) (pi : Int) (he : Int) (wa : Int) (tp : Int) (bo : Int) (pa : Int) (sp : Int) (su : Bool) (re : Int) (ga : Int) (br : Int) (sk : Int) (dr : Int) (fe : Int) (tr : Int) (rt : Int) (mt : Int) (mf : Int) (nz : Int) (bd : Int) : evalF Try.prog flA_S5 (opens []) L0 9 10 [.one (.v false (.int .i64 n)), .ag [.v false (.int .i64 pi), .v false (.int .i64 he), .v false (.int .i64 wa), .v false (.int .i64 tp), .v false (.int .i64 bo), .v false (.int .i64 pa), .v false (.int .i64 sp), .v false (.bool su), .v false (.int .i64 re), .v false (.int .i64 ga), .v false (.int .i64 br), .v false (.int .i64 sk), .v false (.int .i64 dr), .v false (.int .i64 fe), .v false (.int .i64 tr), .v false (.int .i64 rt), .v false (.int .i64 mt), .v false (.int .i64 mf), .v false (.int .i64 nz), .v false (.int .i64 bd)]] = .ret (.one (.v false (.int .i64 (bif bif decide (n < (0 : Int)) || decide (n > (1048576 : Int)) then true else !sv pi he wa tp bo pa sp su re ga br sk dr fe tr rt mt mf nz bd then (0 : Int) else IntKind.wrap IntKind.i64 (IntKind.wrap IntKind.i64 (IntKind.wrap IntKind.i64 (n * pi) * pi) * he))))) := by kernel_rfl
set_option maxHeartbeats 4000000 in
theorem vo_val (n : Int) (pi : Int) (he : Int) (wa : Int) (tp : Int) (bo : Int) (pa : Int) (sp : Int) (su : Bool) (re : Int) (ga : Int) (br : Int) (sk : Int) (dr : Int) (fe : Int) (tr : Int) (rt : Int) (mt : Int) (mf : Int) (nz : Int) (bd : Int) : (.ret (.one (.v false (.int .i64 (bif bif decide (n < (0 : Int)) || decide (n > (1048576 : Int)) then true else !sv pi he wa tp bo pa sp su re ga br sk dr fe tr rt mt mf nz bd then (0 : Int) else IntKind.wrap IntKind.i64 (IntKind.wrap IntKind.i64 (IntKind.wrap IntKind.i64 (n * pi) * pi) * he))))) : Tr AV).val = some (.one (.v false (.int .i64 (bif decide (0 ≤ n) && decide (n ≤ 1048576) && sv pi he wa tp bo pa sp su re ga br sk dr fe tr rt mt mf nz bd then vol pi he n else 0)))) := by
  refine congrArg (fun b => some (AV.one (.v false (.int .i64 b)))) ?_
  cases hs : sv pi he wa tp bo pa sp su re ga br sk dr fe tr rt mt mf nz bd
  · simp
  · obtain ⟨h1, h2, _⟩ := sv_in hs
    by_cases g1 : 0 ≤ n
    · by_cases g2 : n ≤ 1048576
      · have d1 : decide (n < 0) = false := decide_eq_false (by omega)
        have d2 : decide (n > 1048576) = false := decide_eq_false (by omega)
        have d3 : decide (n ≥ 0) = true := decide_eq_true g1
        have d4 : decide (n ≤ 1048576) = true := decide_eq_true g2
        have d5 : decide (0 ≤ n) = true := decide_eq_true g1
        simp only [d1, d2, d3, d4, d5, (vol_in h1 h2 ⟨g1, g2⟩).1, Bool.or_self, Bool.and_self, Bool.not_true, cond_true, cond_false]
      · have d2 : decide (n > 1048576) = true := decide_eq_true (by omega)
        have d4 : decide (n ≤ 1048576) = false := decide_eq_false g2
        simp only [d2, d4, Bool.or_true, Bool.and_false, Bool.false_and, Bool.not_true, Bool.not_false, cond_true, cond_false, Bool.cond_false_right]
    · have d1 : decide (n < 0) = true := decide_eq_true (by omega)
      have d3 : decide (n ≥ 0) = false := decide_eq_false g1
      have d5 : decide (0 ≤ n) = false := decide_eq_false g1
      simp only [d1, d3, d5, Bool.true_or, Bool.false_and, Bool.not_true, Bool.not_false, cond_true, cond_false]
noncomputable def vo_g : List AV → Option (Tr AV)
  | [.one (.v _ (.int .i64 n)), .ag [.v _ (.int .i64 pi), .v _ (.int .i64 he), .v _ (.int .i64 wa), .v _ (.int .i64 tp), .v _ (.int .i64 bo), .v _ (.int .i64 pa), .v _ (.int .i64 sp), .v _ (.bool su), .v _ (.int .i64 re), .v _ (.int .i64 ga), .v _ (.int .i64 br), .v _ (.int .i64 sk), .v _ (.int .i64 dr), .v _ (.int .i64 fe), .v _ (.int .i64 tr), .v _ (.int .i64 rt), .v _ (.int .i64 mt), .v _ (.int .i64 mf), .v _ (.int .i64 nz), .v _ (.int .i64 bd)]] => some (.ret (.one (.v false (.int .i64 (bif decide (0 ≤ n) && decide (n ≤ 1048576) && sv pi he wa tp bo pa sp su re ga br sk dr fe tr rt mt mf nz bd then vol pi he n else 0)))))
  | _ => none
set_option maxHeartbeats 4000000 in
theorem vo_ok : FunOK Try.prog 10 vo_g := by
  refine fun_ok (by kernel_rfl) (flA_S5_ok) (L0_ok _) 9 (On := (opens [])) (fun args t h => ?_)
  unfold vo_g at h
  split at h
  · rename_i _ n _ pi _ he _ wa _ tp _ bo _ pa _ sp _ su _ re _ ga _ br _ sk _ dr _ fe _ tr _ rt _ mt _ mf _ nz _ bd
    simp only [Option.some.injEq] at h
    subst h
    refine ⟨[.one (.v false (.int .i64 n)), .ag [.v false (.int .i64 pi), .v false (.int .i64 he), .v false (.int .i64 wa), .v false (.int .i64 tp), .v false (.int .i64 bo), .v false (.int .i64 pa), .v false (.int .i64 sp), .v false (.bool su), .v false (.int .i64 re), .v false (.int .i64 ga), .v false (.int .i64 br), .v false (.int .i64 sk), .v false (.int .i64 dr), .v false (.int .i64 fe), .v false (.int .i64 tr), .v false (.int .i64 rt), .v false (.int .i64 mt), .v false (.int .i64 mf), .v false (.int .i64 nz), .v false (.int .i64 bd)]], rfl, fun fr w us h => h, fun r hr => ?_⟩
    simp only [Tr.val, Option.some.injEq] at hr
    subst hr
    rw [vo_tree]
    exact vo_val n pi he wa tp bo pa sp su re ga br sk dr fe tr rt mt mf nz bd
  · cases h
noncomputable def flB_S61 : Sums := addS 10 vo_g flA_S5
theorem flB_S61_ok : SumOK Try.prog flB_S61 := addS_ok (vo_ok) (flA_S5_ok)
def pos (pi he dr rt n : Int) (b : Bool) : Int := bif b then vol pi he n / dr - rt else vol pi he n / dr
set_option maxRecDepth 100000 in
theorem po_tree (n : Int) (b : Bool) (pi : Int) (he : Int) (wa : Int) (tp : Int) (bo : Int) (pa : Int) (sp : Int) (su : Bool) (re : Int) (ga : Int) (br : Int) (sk : Int) (dr : Int) (fe : Int) (tr : Int) (rt : Int) (mt : Int) (mf : Int) (nz : Int) (bd : Int) : evalF Try.prog flB_S61 (opens []) L0 9 14 [.one (.v false (.int .i64 n)), .one (.v false (.bool b)), .ag [.v false (.int .i64 pi), .v false (.int .i64 he), .v false (.int .i64 wa), .v false (.int .i64 tp), .v false (.int .i64 bo), .v false (.int .i64 pa), .v false (.int .i64 sp), .v false (.bool su), .v false (.int .i64 re), .v false (.int .i64 ga), .v false (.int .i64 br), .v false (.int .i64 sk), .v false (.int .i64 dr), .v false (.int .i64 fe), .v false (.int .i64 tr), .v false (.int .i64 rt), .v false (.int .i64 mt), .v false (.int .i64 mf), .v false (.int .i64 nz), .v false (.int .i64 bd)]] = .br ((((bif dr == (0 : Int) then true else (bif bif (bif decide ((0 : Int) ≤ n) && decide (n ≤ (1048576 : Int)) && sv pi he wa tp bo pa sp su re ga br sk dr fe tr rt mt mf nz bd then vol pi he n else (0 : Int)) == (-9223372036854775808 : Int) then dr == (-1 : Int) else false then true else ((dr != (0 : Int)) && (dr != (0 : Int)))))))) (.ret (.one (.v false (.int .i64 (bif b then IntKind.wrap IntKind.i64 ((bif dr == (0 : Int) then (0 : Int) else bif bif (bif decide ((0 : Int) ≤ n) && decide (n ≤ (1048576 : Int)) && sv pi he wa tp bo pa sp su re ga br sk dr fe tr rt mt mf nz bd then vol pi he n else (0 : Int)) == (-9223372036854775808 : Int) then dr == (-1 : Int) else false then (0 : Int) else bif bif Int.tmod (bif decide ((0 : Int) ≤ n) && decide (n ≤ (1048576 : Int)) && sv pi he wa tp bo pa sp su re ga br sk dr fe tr rt mt mf nz bd then vol pi he n else (0 : Int)) dr != (0 : Int) then !decide (Int.tmod (bif decide ((0 : Int) ≤ n) && decide (n ≤ (1048576 : Int)) && sv pi he wa tp bo pa sp su re ga br sk dr fe tr rt mt mf nz bd then vol pi he n else (0 : Int)) dr < (0 : Int)) == decide (dr < (0 : Int)) else false then IntKind.wrap IntKind.i64 (IntKind.wrap IntKind.i64 (Int.tdiv (bif decide ((0 : Int) ≤ n) && decide (n ≤ (1048576 : Int)) && sv pi he wa tp bo pa sp su re ga br sk dr fe tr rt mt mf nz bd then vol pi he n else (0 : Int)) dr) - (1 : Int)) else IntKind.wrap IntKind.i64 (Int.tdiv (bif decide ((0 : Int) ≤ n) && decide (n ≤ (1048576 : Int)) && sv pi he wa tp bo pa sp su re ga br sk dr fe tr rt mt mf nz bd then vol pi he n else (0 : Int)) dr)) - rt) else bif dr == (0 : Int) then (0 : Int) else bif bif (bif decide ((0 : Int) ≤ n) && decide (n ≤ (1048576 : Int)) && sv pi he wa tp bo pa sp su re ga br sk dr fe tr rt mt mf nz bd then vol pi he n else (0 : Int)) == (-9223372036854775808 : Int) then dr == (-1 : Int) else false then (0 : Int) else bif bif Int.tmod (bif decide ((0 : Int) ≤ n) && decide (n ≤ (1048576 : Int)) && sv pi he wa tp bo pa sp su re ga br sk dr fe tr rt mt mf nz bd then vol pi he n else (0 : Int)) dr != (0 : Int) then !decide (Int.tmod (bif decide ((0 : Int) ≤ n) && decide (n ≤ (1048576 : Int)) && sv pi he wa tp bo pa sp su re ga br sk dr fe tr rt mt mf nz bd then vol pi he n else (0 : Int)) dr < (0 : Int)) == decide (dr < (0 : Int)) else false then IntKind.wrap IntKind.i64 (IntKind.wrap IntKind.i64 (Int.tdiv (bif decide ((0 : Int) ≤ n) && decide (n ≤ (1048576 : Int)) && sv pi he wa tp bo pa sp su re ga br sk dr fe tr rt mt mf nz bd then vol pi he n else (0 : Int)) dr) - (1 : Int)) else IntKind.wrap IntKind.i64 (Int.tdiv (bif decide ((0 : Int) ≤ n) && decide (n ≤ (1048576 : Int)) && sv pi he wa tp bo pa sp su re ga br sk dr fe tr rt mt mf nz bd then vol pi he n else (0 : Int)) dr)))))) (.bad 116) := by kernel_rfl
theorem po_val (n : Int) (b : Bool) (pi : Int) (he : Int) (wa : Int) (tp : Int) (bo : Int) (pa : Int) (sp : Int) (su : Bool) (re : Int) (ga : Int) (br : Int) (sk : Int) (dr : Int) (fe : Int) (tr : Int) (rt : Int) (mt : Int) (mf : Int) (nz : Int) (bd : Int) (hc : (sv pi he wa tp bo pa sp su re ga br sk dr fe tr rt mt mf nz bd && (decide (0 ≤ n) && decide (n ≤ 1048576))) = true) : (.br ((((bif dr == (0 : Int) then true else (bif bif (bif decide ((0 : Int) ≤ n) && decide (n ≤ (1048576 : Int)) && sv pi he wa tp bo pa sp su re ga br sk dr fe tr rt mt mf nz bd then vol pi he n else (0 : Int)) == (-9223372036854775808 : Int) then dr == (-1 : Int) else false then true else ((dr != (0 : Int)) && (dr != (0 : Int)))))))) (.ret (.one (.v false (.int .i64 (bif b then IntKind.wrap IntKind.i64 ((bif dr == (0 : Int) then (0 : Int) else bif bif (bif decide ((0 : Int) ≤ n) && decide (n ≤ (1048576 : Int)) && sv pi he wa tp bo pa sp su re ga br sk dr fe tr rt mt mf nz bd then vol pi he n else (0 : Int)) == (-9223372036854775808 : Int) then dr == (-1 : Int) else false then (0 : Int) else bif bif Int.tmod (bif decide ((0 : Int) ≤ n) && decide (n ≤ (1048576 : Int)) && sv pi he wa tp bo pa sp su re ga br sk dr fe tr rt mt mf nz bd then vol pi he n else (0 : Int)) dr != (0 : Int) then !decide (Int.tmod (bif decide ((0 : Int) ≤ n) && decide (n ≤ (1048576 : Int)) && sv pi he wa tp bo pa sp su re ga br sk dr fe tr rt mt mf nz bd then vol pi he n else (0 : Int)) dr < (0 : Int)) == decide (dr < (0 : Int)) else false then IntKind.wrap IntKind.i64 (IntKind.wrap IntKind.i64 (Int.tdiv (bif decide ((0 : Int) ≤ n) && decide (n ≤ (1048576 : Int)) && sv pi he wa tp bo pa sp su re ga br sk dr fe tr rt mt mf nz bd then vol pi he n else (0 : Int)) dr) - (1 : Int)) else IntKind.wrap IntKind.i64 (Int.tdiv (bif decide ((0 : Int) ≤ n) && decide (n ≤ (1048576 : Int)) && sv pi he wa tp bo pa sp su re ga br sk dr fe tr rt mt mf nz bd then vol pi he n else (0 : Int)) dr)) - rt) else bif dr == (0 : Int) then (0 : Int) else bif bif (bif decide ((0 : Int) ≤ n) && decide (n ≤ (1048576 : Int)) && sv pi he wa tp bo pa sp su re ga br sk dr fe tr rt mt mf nz bd then vol pi he n else (0 : Int)) == (-9223372036854775808 : Int) then dr == (-1 : Int) else false then (0 : Int) else bif bif Int.tmod (bif decide ((0 : Int) ≤ n) && decide (n ≤ (1048576 : Int)) && sv pi he wa tp bo pa sp su re ga br sk dr fe tr rt mt mf nz bd then vol pi he n else (0 : Int)) dr != (0 : Int) then !decide (Int.tmod (bif decide ((0 : Int) ≤ n) && decide (n ≤ (1048576 : Int)) && sv pi he wa tp bo pa sp su re ga br sk dr fe tr rt mt mf nz bd then vol pi he n else (0 : Int)) dr < (0 : Int)) == decide (dr < (0 : Int)) else false then IntKind.wrap IntKind.i64 (IntKind.wrap IntKind.i64 (Int.tdiv (bif decide ((0 : Int) ≤ n) && decide (n ≤ (1048576 : Int)) && sv pi he wa tp bo pa sp su re ga br sk dr fe tr rt mt mf nz bd then vol pi he n else (0 : Int)) dr) - (1 : Int)) else IntKind.wrap IntKind.i64 (Int.tdiv (bif decide ((0 : Int) ≤ n) && decide (n ≤ (1048576 : Int)) && sv pi he wa tp bo pa sp su re ga br sk dr fe tr rt mt mf nz bd then vol pi he n else (0 : Int)) dr)))))) (.bad 116) : Tr AV).val = some (.one (.v false (.int .i64 (pos pi he dr rt n b)))) := by
  simp only [Bool.and_eq_true, decide_eq_true_eq] at hc
  obtain ⟨hs, g1, g2⟩ := hc
  obtain ⟨h1, h2, h3, h4, _⟩ := sv_in hs
  have V := vol_in h1 h2 ⟨g1, g2⟩
  have d4 : decide (n ≤ 1048576) = true := decide_eq_true g2
  have d5 : decide (0 ≤ n) = true := decide_eq_true g1
  have q1 : vol pi he n / dr ≤ vol pi he n := Int.ediv_le_self _ V.2.1
  have q0 : 0 ≤ vol pi he n / dr := Int.ediv_nonneg V.2.1 (by omega)
  have e1 : (dr == 0) = false := beq_f (by omega)
  have e2 : (dr != 0) = true := bne_t (by omega)
  have e3 : (vol pi he n == -9223372036854775808) = false := beq_f (by omega)
  have e4 : decide (dr < 0) = false := decide_eq_false (by omega)
  have e5 : decide (Int.tmod (vol pi he n) dr < 0) = false := decide_eq_false (by have := Int.tmod_nonneg dr V.2.1; omega)
  have w1 : IntKind.wrap IntKind.i64 (vol pi he n / dr) = vol pi he n / dr := wid (by omega) (by omega)
  have w2 : IntKind.wrap IntKind.i64 (vol pi he n / dr - rt) = vol pi he n / dr - rt := wid (by omega) (by omega)
  simp only [hs, d4, d5, e1, e2, e3, e4, e5, tdiv_nn V.2.1, w1, Bool.and_self, Bool.not_false, cond_true, cond_false, Tr.val]
  unfold pos
  have z : (!(false == false)) = false := rfl
  cases b <;> cases (Int.tmod (vol pi he n) dr != 0) <;> simp only [z, cond_true, cond_false, w2] <;> rfl
noncomputable def po_g : List AV → Option (Tr AV)
  | [.one (.v _ (.int .i64 n)), .one (.v _ (.bool b)), .ag [.v _ (.int .i64 pi), .v _ (.int .i64 he), .v _ (.int .i64 wa), .v _ (.int .i64 tp), .v _ (.int .i64 bo), .v _ (.int .i64 pa), .v _ (.int .i64 sp), .v _ (.bool su), .v _ (.int .i64 re), .v _ (.int .i64 ga), .v _ (.int .i64 br), .v _ (.int .i64 sk), .v _ (.int .i64 dr), .v _ (.int .i64 fe), .v _ (.int .i64 tr), .v _ (.int .i64 rt), .v _ (.int .i64 mt), .v _ (.int .i64 mf), .v _ (.int .i64 nz), .v _ (.int .i64 bd)]] => some (.br (sv pi he wa tp bo pa sp su re ga br sk dr fe tr rt mt mf nz bd && (decide (0 ≤ n) && decide (n ≤ 1048576))) (.ret (.one (.v false (.int .i64 (pos pi he dr rt n b))))) (.bad 900))
  | _ => none
set_option maxHeartbeats 4000000 in
theorem po_ok : FunOK Try.prog 14 po_g := by
  refine fun_ok (by kernel_rfl) (flB_S61_ok) (L0_ok _) 9 (On := (opens [])) (fun args t h => ?_)
  unfold po_g at h
  split at h
  · rename_i _ n _ b _ pi _ he _ wa _ tp _ bo _ pa _ sp _ su _ re _ ga _ br _ sk _ dr _ fe _ tr _ rt _ mt _ mf _ nz _ bd
    simp only [Option.some.injEq] at h
    subst h
    refine ⟨[.one (.v false (.int .i64 n)), .one (.v false (.bool b)), .ag [.v false (.int .i64 pi), .v false (.int .i64 he), .v false (.int .i64 wa), .v false (.int .i64 tp), .v false (.int .i64 bo), .v false (.int .i64 pa), .v false (.int .i64 sp), .v false (.bool su), .v false (.int .i64 re), .v false (.int .i64 ga), .v false (.int .i64 br), .v false (.int .i64 sk), .v false (.int .i64 dr), .v false (.int .i64 fe), .v false (.int .i64 tr), .v false (.int .i64 rt), .v false (.int .i64 mt), .v false (.int .i64 mf), .v false (.int .i64 nz), .v false (.int .i64 bd)]], rfl, fun fr w us h => h, fun r hr => ?_⟩
    obtain ⟨hc, hr⟩ := br_bad hr
    simp only [Tr.val, Option.some.injEq] at hr
    subst hr
    rw [po_tree]
    exact po_val n b pi he wa tp bo pa sp su re ga br sk dr fe tr rt mt mf nz bd hc
  · cases h
noncomputable def flB_S62 : Sums := addS 14 po_g flB_S61
theorem flB_S62_ok : SumOK Try.prog flB_S62 := addS_ok (po_ok) (flB_S61_ok)
end Go.Proofs.Ytfceajcfackidaa
