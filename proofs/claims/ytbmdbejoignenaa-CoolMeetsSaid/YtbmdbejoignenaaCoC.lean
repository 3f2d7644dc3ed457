/-
  Layer 36: settings; the speed of a layer; Slow.
-/
import Derived.Test.YtbmdbejoignenaaProg
import Derived.Test.YtbmdbejoignenaaFvX
import Derived.Test.YtbmdbejoignenaaFvZ
import Derived.Test.YtbmdbejoignenaaAut
import Derived.Test.YtbmdbejoignenaaRd
import Derived.Test.YtbmdbejoignenaaPl
import Derived.Test.YtbmdbejoignenaaScn
import Derived.Test.YtbmdbejoignenaaCoA
import Derived.Test.YtbmdbejoignenaaCoB
namespace Go.Proofs.Ytbmdbejoignenaa
open Go
set_option maxRecDepth 100000 in
theorem out_tree (n : Int) (lo : Int) (hi : Int) : evalF Try.prog coB_S52 (opens []) coB_L53 9 30 [.one (.v false (.int .i64 n)), .one (.v false (.int .i64 lo)), .one (.v false (.int .i64 hi))] = .ret (.one (.v false (.bool (bif decide (n < lo) then true else decide (n > hi))))) := by kernel_rfl
set_option maxHeartbeats 4000000 in
theorem out_val (n : Int) (lo : Int) (hi : Int) : (.ret (.one (.v false (.bool (bif decide (n < lo) then true else decide (n > hi))))) : Tr AV).val = some (.one (.v false (.bool (decide (n < lo) || decide (n > hi))))) := by
  cases decide (n < lo) <;> rfl
noncomputable def out_g : List AV → Option (Tr AV)
  | [.one (.v _ (.int .i64 n)), .one (.v _ (.int .i64 lo)), .one (.v _ (.int .i64 hi))] => some (.ret (.one (.v false (.bool (decide (n < lo) || decide (n > hi))))))
  | _ => none
set_option maxHeartbeats 4000000 in
theorem out_ok : FunOK Try.prog 30 out_g := by
  refine fun_ok (by kernel_rfl) (coB_S52_ok) (coB_L53_ok) 9 (On := (opens [])) (fun args t h => ?_)
  unfold out_g at h
  split at h
  · rename_i _ n _ lo _ hi
    simp only [Option.some.injEq] at h
    subst h
    refine ⟨[.one (.v false (.int .i64 n)), .one (.v false (.int .i64 lo)), .one (.v false (.int .i64 hi))], rfl, fun fr w us h => h, fun r hr => ?_⟩
    simp only [Tr.val, Option.some.injEq] at hr
    subst hr
    rw [out_tree]
    exact out_val n lo hi
  · cases h
noncomputable def coC_S51 : Sums := addS 30 out_g coB_S52
theorem coC_S51_ok : SumOK Try.prog coC_S51 := addS_ok (out_ok) (coB_S52_ok)
def svP (pi he wa tp bo pa sp : Int) (_su : Bool) (re ga br sk dr fe tr rt mt mf nz bd : Int) : Prop := (32 ≤ pi ∧ pi ≤ 1024 ∧ Int.tmod pi 2 = 0) ∧ (4 ≤ he ∧ he ≤ 1024 ∧ Int.tmod he 2 = 0) ∧ (0 ≤ wa ∧ wa ≤ 8) ∧ (0 ≤ tp ∧ tp ≤ 16) ∧ (0 ≤ bo ∧ bo ≤ 16) ∧ (0 ≤ pa ∧ pa ≤ 3) ∧ (1 ≤ sp ∧ sp ≤ 64) ∧ (0 ≤ re ∧ re ≤ 64) ∧ (0 ≤ ga ∧ ga ≤ 64) ∧ (0 ≤ br ∧ br ≤ 64) ∧ (0 ≤ sk ∧ sk ≤ 63) ∧ (1 ≤ dr ∧ dr ≤ 1073741824) ∧ (1 ≤ fe ∧ fe ≤ 1048576) ∧ (1 ≤ tr ∧ tr ≤ 1048576) ∧ (0 ≤ rt ∧ rt ≤ 65536) ∧ (0 ≤ mt ∧ mt ≤ 1048576) ∧ (0 ≤ nz ∧ nz ≤ 400000) ∧ (0 ≤ bd ∧ bd ≤ 400000) ∧ (1 ≤ mf ∧ mf ≤ fe)
instance (pi he wa tp bo pa sp : Int) (su : Bool) (re ga br sk dr fe tr rt mt mf nz bd : Int) : Decidable (svP pi he wa tp bo pa sp su re ga br sk dr fe tr rt mt mf nz bd) := by unfold svP; infer_instance
def sv (pi he wa tp bo pa sp : Int) (su : Bool) (re ga br sk dr fe tr rt mt mf nz bd : Int) : Bool := decide (svP pi he wa tp bo pa sp su re ga br sk dr fe tr rt mt mf nz bd)
set_option maxRecDepth 100000 in
theorem fv_tree (pi : Int) (he : Int) (wa : Int) (tp : Int) (bo : Int) (pa : Int) (sp : Int) (su : Bool) (re : Int) (ga : Int) (br : Int) (sk : Int) (dr : Int) (fe : Int) (tr : Int) (rt : Int) (mt : Int) (mf : Int) (nz : Int) (bd : Int) : evalF Try.prog coC_S51 (opens []) coB_L53 9 28 [.ag [.v false (.int .i64 pi), .v false (.int .i64 he), .v false (.int .i64 wa), .v false (.int .i64 tp), .v false (.int .i64 bo), .v false (.int .i64 pa), .v false (.int .i64 sp), .v false (.bool su), .v false (.int .i64 re), .v false (.int .i64 ga), .v false (.int .i64 br), .v false (.int .i64 sk), .v false (.int .i64 dr), .v false (.int .i64 fe), .v false (.int .i64 tr), .v false (.int .i64 rt), .v false (.int .i64 mt), .v false (.int .i64 mf), .v false (.int .i64 nz), .v false (.int .i64 bd)]] = .ret (.one (.v false (.bool ((bif bif bif Int.tmod pi (2 : Int) != (0 : Int) then true else decide (pi < (32 : Int)) || decide (pi > (1024 : Int)) then true else Int.tmod he (2 : Int) != (0 : Int) then true else decide (he < (4 : Int)) || decide (he > (1024 : Int))) == false && ((bif bif decide (wa < (0 : Int)) || decide (wa > (8 : Int)) then true else decide (tp < (0 : Int)) || decide (tp > (16 : Int)) then true else decide (bo < (0 : Int)) || decide (bo > (16 : Int))) == false && ((bif decide (pa < (0 : Int)) || decide (pa > (3 : Int)) then true else decide (sp < (1 : Int)) || decide (sp > (64 : Int))) == false && ((bif bif bif decide (re < (0 : Int)) || decide (re > (64 : Int)) then true else decide (ga < (0 : Int)) || decide (ga > (64 : Int)) then true else decide (br < (0 : Int)) || decide (br > (64 : Int)) then true else decide (sk < (0 : Int)) || decide (sk > (63 : Int))) == false && ((bif decide (dr < (1 : Int)) || decide (dr > (1073741824 : Int)) then true else decide (rt < (0 : Int)) || decide (rt > (65536 : Int))) == false && ((bif decide (fe < (1 : Int)) || decide (fe > (1048576 : Int)) then true else decide (tr < (1 : Int)) || decide (tr > (1048576 : Int))) == false && ((bif decide (mt < (0 : Int)) || decide (mt > (1048576 : Int)) then true else decide (mf < (1 : Int)) || decide (mf > fe)) == false && ((bif decide (nz < (0 : Int)) || decide (nz > (400000 : Int)) then true else decide (bd < (0 : Int)) || decide (bd > (400000 : Int))) == false && true))))))))))) := by kernel_rfl
set_option maxHeartbeats 4000000 in
theorem fv_val (pi : Int) (he : Int) (wa : Int) (tp : Int) (bo : Int) (pa : Int) (sp : Int) (su : Bool) (re : Int) (ga : Int) (br : Int) (sk : Int) (dr : Int) (fe : Int) (tr : Int) (rt : Int) (mt : Int) (mf : Int) (nz : Int) (bd : Int) : (.ret (.one (.v false (.bool ((bif bif bif Int.tmod pi (2 : Int) != (0 : Int) then true else decide (pi < (32 : Int)) || decide (pi > (1024 : Int)) then true else Int.tmod he (2 : Int) != (0 : Int) then true else decide (he < (4 : Int)) || decide (he > (1024 : Int))) == false && ((bif bif decide (wa < (0 : Int)) || decide (wa > (8 : Int)) then true else decide (tp < (0 : Int)) || decide (tp > (16 : Int)) then true else decide (bo < (0 : Int)) || decide (bo > (16 : Int))) == false && ((bif decide (pa < (0 : Int)) || decide (pa > (3 : Int)) then true else decide (sp < (1 : Int)) || decide (sp > (64 : Int))) == false && ((bif bif bif decide (re < (0 : Int)) || decide (re > (64 : Int)) then true else decide (ga < (0 : Int)) || decide (ga > (64 : Int)) then true else decide (br < (0 : Int)) || decide (br > (64 : Int)) then true else decide (sk < (0 : Int)) || decide (sk > (63 : Int))) == false && ((bif decide (dr < (1 : Int)) || decide (dr > (1073741824 : Int)) then true else decide (rt < (0 : Int)) || decide (rt > (65536 : Int))) == false && ((bif decide (fe < (1 : Int)) || decide (fe > (1048576 : Int)) then true else decide (tr < (1 : Int)) || decide (tr > (1048576 : Int))) == false && ((bif decide (mt < (0 : Int)) || decide (mt > (1048576 : Int)) then true else decide (mf < (1 : Int)) || decide (mf > fe)) == false && ((bif decide (nz < (0 : Int)) || decide (nz > (400000 : Int)) then true else decide (bd < (0 : Int)) || decide (bd > (400000 : Int))) == false && true))))))))))) : Tr AV).val = some (.one (.v false (.bool (sv pi he wa tp bo pa sp su re ga br sk dr fe tr rt mt mf nz bd)))) := by
  refine congrArg (fun b => some (AV.one (.v false (.bool b)))) ?_
  rw [Bool.eq_iff_iff]
  unfold sv
  rw [decide_eq_true_iff]
  unfold svP
  generalize Int.tmod pi 2 = x1
  generalize Int.tmod he 2 = x2
  simp only [Bool.cond_eq_ite]
  constructor
  · intro h
    simp at h ⊢
    omega
  · intro h
    simp at h ⊢
    omega
noncomputable def fv_g : List AV → Option (Tr AV)
  | [.ag [.v _ (.int .i64 pi), .v _ (.int .i64 he), .v _ (.int .i64 wa), .v _ (.int .i64 tp), .v _ (.int .i64 bo), .v _ (.int .i64 pa), .v _ (.int .i64 sp), .v _ (.bool su), .v _ (.int .i64 re), .v _ (.int .i64 ga), .v _ (.int .i64 br), .v _ (.int .i64 sk), .v _ (.int .i64 dr), .v _ (.int .i64 fe), .v _ (.int .i64 tr), .v _ (.int .i64 rt), .v _ (.int .i64 mt), .v _ (.int .i64 mf), .v _ (.int .i64 nz), .v _ (.int .i64 bd)]] => some (.ret (.one (.v false (.bool (sv pi he wa tp bo pa sp su re ga br sk dr fe tr rt mt mf nz bd)))))
  | _ => none
set_option maxHeartbeats 4000000 in
theorem fv_ok : FunOK Try.prog 28 fv_g := by
  refine fun_ok (by kernel_rfl) (coC_S51_ok) (coB_L53_ok) 9 (On := (opens [])) (fun args t h => ?_)
  unfold fv_g at h
  split at h
  · rename_i _ pi _ he _ wa _ tp _ bo _ pa _ sp _ su _ re _ ga _ br _ sk _ dr _ fe _ tr _ rt _ mt _ mf _ nz _ bd
    simp only [Option.some.injEq] at h
    subst h
    refine ⟨[.ag [.v false (.int .i64 pi), .v false (.int .i64 he), .v false (.int .i64 wa), .v false (.int .i64 tp), .v false (.int .i64 bo), .v false (.int .i64 pa), .v false (.int .i64 sp), .v false (.bool su), .v false (.int .i64 re), .v false (.int .i64 ga), .v false (.int .i64 br), .v false (.int .i64 sk), .v false (.int .i64 dr), .v false (.int .i64 fe), .v false (.int .i64 tr), .v false (.int .i64 rt), .v false (.int .i64 mt), .v false (.int .i64 mf), .v false (.int .i64 nz), .v false (.int .i64 bd)]], rfl, fun fr w us h => h, fun r hr => ?_⟩
    simp only [Tr.val, Option.some.injEq] at hr
    subst hr
    rw [fv_tree]
    exact fv_val pi he wa tp bo pa sp su re ga br sk dr fe tr rt mt mf nz bd
  · cases h
noncomputable def coC_S52 : Sums := addS 28 fv_g coC_S51
theorem coC_S52_ok : SumOK Try.prog coC_S52 := addS_ok (fv_ok) (coC_S51_ok)
set_option maxRecDepth 100000 in
theorem rv_tree (pi : Int) (he : Int) (wa : Int) (tp : Int) (bo : Int) (pa : Int) (sp : Int) (su : Bool) (re : Int) (ga : Int) (br : Int) (sk : Int) (dr : Int) (fe : Int) (tr : Int) (rt : Int) (mt : Int) (mf : Int) (nz : Int) (bd : Int) : evalF Try.prog coC_S52 (opens []) coB_L53 9 10 [.ag [.v false (.int .i64 pi), .v false (.int .i64 he), .v false (.int .i64 wa), .v false (.int .i64 tp), .v false (.int .i64 bo), .v false (.int .i64 pa), .v false (.int .i64 sp), .v false (.bool su), .v false (.int .i64 re), .v false (.int .i64 ga), .v false (.int .i64 br), .v false (.int .i64 sk), .v false (.int .i64 dr), .v false (.int .i64 fe), .v false (.int .i64 tr), .v false (.int .i64 rt), .v false (.int .i64 mt), .v false (.int .i64 mf), .v false (.int .i64 nz), .v false (.int .i64 bd)]] = .ret (.one (.v false (.bool (bif bif bif bif !bif decide (pi ≥ (32 : Int)) then decide (pi ≤ (1024 : Int)) else false then true else Int.tmod pi (2 : Int) != (0 : Int) then true else !bif decide (he ≥ (4 : Int)) then decide (he ≤ (1024 : Int)) else false then true else Int.tmod he (2 : Int) != (0 : Int) then false else bif bif bif bif bif !bif decide (wa ≥ (0 : Int)) then decide (wa ≤ (8 : Int)) else false then true else !bif decide (tp ≥ (0 : Int)) then decide (tp ≤ (16 : Int)) else false then true else !bif decide (bo ≥ (0 : Int)) then decide (bo ≤ (16 : Int)) else false then true else !bif decide (pa ≥ (0 : Int)) then decide (pa ≤ (3 : Int)) else false then true else !bif decide (sp ≥ (1 : Int)) then decide (sp ≤ (64 : Int)) else false then false else bif bif bif bif !bif decide (re ≥ (0 : Int)) then decide (re ≤ (64 : Int)) else false then true else !bif decide (ga ≥ (0 : Int)) then decide (ga ≤ (64 : Int)) else false then true else !bif decide (br ≥ (0 : Int)) then decide (br ≤ (64 : Int)) else false then true else !bif decide (sk ≥ (0 : Int)) then decide (sk ≤ (63 : Int)) else false then false else bif bif bif bif !bif decide (dr ≥ (1 : Int)) then decide (dr ≤ (1073741824 : Int)) else false then true else !bif decide (fe ≥ (1 : Int)) then decide (fe ≤ (1048576 : Int)) else false then true else !bif decide (tr ≥ (1 : Int)) then decide (tr ≤ (1048576 : Int)) else false then true else !bif decide (rt ≥ (0 : Int)) then decide (rt ≤ (65536 : Int)) else false then false else bif bif bif bif decide (mt ≥ (0 : Int)) then decide (mt ≤ (1048576 : Int)) else false then bif decide (mf ≥ (1 : Int)) then decide (mf ≤ fe) else false else false then bif decide (nz ≥ (0 : Int)) then decide (nz ≤ (400000 : Int)) else false else false then bif decide (bd ≥ (0 : Int)) then decide (bd ≤ (400000 : Int)) else false else false)))) := by kernel_rfl
set_option maxHeartbeats 4000000 in
theorem rv_val (pi : Int) (he : Int) (wa : Int) (tp : Int) (bo : Int) (pa : Int) (sp : Int) (su : Bool) (re : Int) (ga : Int) (br : Int) (sk : Int) (dr : Int) (fe : Int) (tr : Int) (rt : Int) (mt : Int) (mf : Int) (nz : Int) (bd : Int) : (.ret (.one (.v false (.bool (bif bif bif bif !bif decide (pi ≥ (32 : Int)) then decide (pi ≤ (1024 : Int)) else false then true else Int.tmod pi (2 : Int) != (0 : Int) then true else !bif decide (he ≥ (4 : Int)) then decide (he ≤ (1024 : Int)) else false then true else Int.tmod he (2 : Int) != (0 : Int) then false else bif bif bif bif bif !bif decide (wa ≥ (0 : Int)) then decide (wa ≤ (8 : Int)) else false then true else !bif decide (tp ≥ (0 : Int)) then decide (tp ≤ (16 : Int)) else false then true else !bif decide (bo ≥ (0 : Int)) then decide (bo ≤ (16 : Int)) else false then true else !bif decide (pa ≥ (0 : Int)) then decide (pa ≤ (3 : Int)) else false then true else !bif decide (sp ≥ (1 : Int)) then decide (sp ≤ (64 : Int)) else false then false else bif bif bif bif !bif decide (re ≥ (0 : Int)) then decide (re ≤ (64 : Int)) else false then true else !bif decide (ga ≥ (0 : Int)) then decide (ga ≤ (64 : Int)) else false then true else !bif decide (br ≥ (0 : Int)) then decide (br ≤ (64 : Int)) else false then true else !bif decide (sk ≥ (0 : Int)) then decide (sk ≤ (63 : Int)) else false then false else bif bif bif bif !bif decide (dr ≥ (1 : Int)) then decide (dr ≤ (1073741824 : Int)) else false then true else !bif decide (fe ≥ (1 : Int)) then decide (fe ≤ (1048576 : Int)) else false then true else !bif decide (tr ≥ (1 : Int)) then decide (tr ≤ (1048576 : Int)) else false then true else !bif decide (rt ≥ (0 : Int)) then decide (rt ≤ (65536 : Int)) else false then false else bif bif bif bif decide (mt ≥ (0 : Int)) then decide (mt ≤ (1048576 : Int)) else false then bif decide (mf ≥ (1 : Int)) then decide (mf ≤ fe) else false else false then bif decide (nz ≥ (0 : Int)) then decide (nz ≤ (400000 : Int)) else false else false then bif decide (bd ≥ (0 : Int)) then decide (bd ≤ (400000 : Int)) else false else false)))) : Tr AV).val = some (.one (.v false (.bool (sv pi he wa tp bo pa sp su re ga br sk dr fe tr rt mt mf nz bd)))) := by
  refine congrArg (fun b => some (AV.one (.v false (.bool b)))) ?_
  rw [Bool.eq_iff_iff]
  unfold sv
  rw [decide_eq_true_iff]
  unfold svP
  generalize Int.tmod pi 2 = x1
  generalize Int.tmod he 2 = x2
  simp only [Bool.cond_eq_ite]
  constructor
  · intro h
    simp at h ⊢
    omega
  · intro h
    simp at h ⊢
    omega
noncomputable def rv_g : List AV → Option (Tr AV)
  | [.ag [.v _ (.int .i64 pi), .v _ (.int .i64 he), .v _ (.int .i64 wa), .v _ (.int .i64 tp), .v _ (.int .i64 bo), .v _ (.int .i64 pa), .v _ (.int .i64 sp), .v _ (.bool su), .v _ (.int .i64 re), .v _ (.int .i64 ga), .v _ (.int .i64 br), .v _ (.int .i64 sk), .v _ (.int .i64 dr), .v _ (.int .i64 fe), .v _ (.int .i64 tr), .v _ (.int .i64 rt), .v _ (.int .i64 mt), .v _ (.int .i64 mf), .v _ (.int .i64 nz), .v _ (.int .i64 bd)]] => some (.ret (.one (.v false (.bool (sv pi he wa tp bo pa sp su re ga br sk dr fe tr rt mt mf nz bd)))))
  | _ => none
set_option maxHeartbeats 4000000 in
theorem rv_ok : FunOK Try.prog 10 rv_g := by
  refine fun_ok (by kernel_rfl) (coC_S52_ok) (coB_L53_ok) 9 (On := (opens [])) (fun args t h => ?_)
  unfold rv_g at h
  split at h
  · rename_i _ pi _ he _ wa _ tp _ bo _ pa _ sp _ su _ re _ ga _ br _ sk _ dr _ fe _ tr _ rt _ mt _ mf _ nz _ bd
    simp only [Option.some.injEq] at h
    subst h
    refine ⟨[.ag [.v false (.int .i64 pi), .v false (.int .i64 he), .v false (.int .i64 wa), .v false (.int .i64 tp), .v false (.int .i64 bo), .v false (.int .i64 pa), .v false (.int .i64 sp), .v false (.bool su), .v false (.int .i64 re), .v false (.int .i64 ga), .v false (.int .i64 br), .v false (.int .i64 sk), .v false (.int .i64 dr), .v false (.int .i64 fe), .v false (.int .i64 tr), .v false (.int .i64 rt), .v false (.int .i64 mt), .v false (.int .i64 mf), .v false (.int .i64 nz), .v false (.int .i64 bd)]], rfl, fun fr w us h => h, fun r hr => ?_⟩
    simp only [Tr.val, Option.some.injEq] at hr
    subst hr
    rw [rv_tree]
    exact rv_val pi he wa tp bo pa sp su re ga br sk dr fe tr rt mt mf nz bd
  · cases h
noncomputable def coC_S53 : Sums := addS 10 rv_g coC_S52
theorem coC_S53_ok : SumOK Try.prog coC_S53 := addS_ok (rv_ok) (coC_S52_ok)
theorem sv_sp {pi he wa tp bo pa sp : Int} {su : Bool} {re ga br sk dr fe tr rt mt mf nz bd : Int} (h : sv pi he wa tp bo pa sp su re ga br sk dr fe tr rt mt mf nz bd = true) : (32 ≤ pi ∧ pi ≤ 1024) ∧ (1 ≤ fe ∧ fe ≤ 1048576) ∧ (1 ≤ mf ∧ mf ≤ fe) := by
  have := of_decide_eq_true (show decide (svP pi he wa tp bo pa sp su re ga br sk dr fe tr rt mt mf nz bd) = true from h)
  unfold svP at this
  omega
theorem slw_in {mf pi : Int} (h1 : 32 ≤ pi) (h2 : 1 ≤ mf) (h3 : mf ≤ 1048576) : IntKind.wrap IntKind.i64 (Int.tdiv mf pi) = Int.tdiv mf pi ∧ 1 ≤ slw mf pi ∧ slw mf pi ≤ 1048576 := by
  have e : Int.tdiv mf pi = mf / pi := Int.tdiv_eq_ediv_of_nonneg (by omega)
  have a1 : 0 ≤ mf / pi := Int.ediv_nonneg (by omega) (by omega)
  have a2 : mf / pi ≤ mf := Int.ediv_le_self _ (by omega)
  unfold slw
  rw [e]
  refine ⟨wid (by omega) (by omega), ?_, ?_⟩ <;> split <;> omega
theorem slw_mono {mf fe pi : Int} (h1 : 32 ≤ pi) (h2 : 1 ≤ mf) (h3 : mf ≤ fe) : slw mf pi ≤ slw fe pi := by
  have e1 : Int.tdiv mf pi = mf / pi := Int.tdiv_eq_ediv_of_nonneg (by omega)
  have e2 : Int.tdiv fe pi = fe / pi := Int.tdiv_eq_ediv_of_nonneg (by omega)
  have := Int.ediv_le_ediv (c := pi) (by omega) h3
  unfold slw
  rw [e1, e2]
  split <;> split <;> omega
noncomputable def seaR (L : List Opn) (pi he wa tp bo pa sp : Int) (su : Bool) (re ga br sk dr fe tr rt mt mf nz bd : Int) : Int := (sea_g (0, slw mf pi, pi, he, wa, tp, bo, pa, sp, su, re, ga, br, sk, dr, fe, tr, rt, mt, mf, nz, bd, L) (0, slw fe pi - slw mf pi + 1)).2.1
noncomputable def spV (L : List Opn) (pi he wa tp bo pa sp : Int) (su : Bool) (re ga br sk dr fe tr rt mt mf nz bd : Int) : Int := max (slw mf pi) (slw mf pi + seaR L pi he wa tp bo pa sp su re ga br sk dr fe tr rt mt mf nz bd - 1)
set_option maxRecDepth 100000 in
theorem spf_tree (L : (Ty.list (.prod (.int .i64) (.prod (.int .i64) (.prod (.int .i64) (.prod (.int .i64) (.prod (.int .i64) (.list (.prod (.int .i64) (.int .i64))))))))).den) (pi : Int) (he : Int) (wa : Int) (tp : Int) (bo : Int) (pa : Int) (sp : Int) (su : Bool) (re : Int) (ga : Int) (br : Int) (sk : Int) (dr : Int) (fe : Int) (tr : Int) (rt : Int) (mt : Int) (mf : Int) (nz : Int) (bd : Int) : evalF Try.prog coC_S53 (opens []) coB_L53 9 36 [.one (.d false false (.prod (.int .i64) (.prod (.int .i64) (.prod (.int .i64) (.prod (.int .i64) (.prod (.int .i64) (.list (.prod (.int .i64) (.int .i64)))))))) L), .ag [.v false (.int .i64 pi), .v false (.int .i64 he), .v false (.int .i64 wa), .v false (.int .i64 tp), .v false (.int .i64 bo), .v false (.int .i64 pa), .v false (.int .i64 sp), .v false (.bool su), .v false (.int .i64 re), .v false (.int .i64 ga), .v false (.int .i64 br), .v false (.int .i64 sk), .v false (.int .i64 dr), .v false (.int .i64 fe), .v false (.int .i64 tr), .v false (.int .i64 rt), .v false (.int .i64 mt), .v false (.int .i64 mf), .v false (.int .i64 nz), .v false (.int .i64 bd)]] = .br (((pi != (0 : Int)) && ((pi != (0 : Int)) && ((sea_cond ((0 : Int), if IntKind.wrap IntKind.i64 (Int.tdiv mf pi) > (1 : Int) then IntKind.wrap IntKind.i64 (Int.tdiv mf pi) else (1 : Int), pi, he, wa, tp, bo, pa, sp, su, re, ga, br, sk, dr, fe, tr, rt, mt, mf, nz, bd, L) ((0 : Int), IntKind.wrap IntKind.i64 (IntKind.wrap IntKind.i64 ((if IntKind.wrap IntKind.i64 (Int.tdiv fe pi) > (1 : Int) then IntKind.wrap IntKind.i64 (Int.tdiv fe pi) else (1 : Int)) - if IntKind.wrap IntKind.i64 (Int.tdiv mf pi) > (1 : Int) then IntKind.wrap IntKind.i64 (Int.tdiv mf pi) else (1 : Int)) + (1 : Int)))) && (Nat.beq (Prod.fst (sea_g ((0 : Int), if IntKind.wrap IntKind.i64 (Int.tdiv mf pi) > (1 : Int) then IntKind.wrap IntKind.i64 (Int.tdiv mf pi) else (1 : Int), pi, he, wa, tp, bo, pa, sp, su, re, ga, br, sk, dr, fe, tr, rt, mt, mf, nz, bd, L) ((0 : Int), IntKind.wrap IntKind.i64 (IntKind.wrap IntKind.i64 ((if IntKind.wrap IntKind.i64 (Int.tdiv fe pi) > (1 : Int) then IntKind.wrap IntKind.i64 (Int.tdiv fe pi) else (1 : Int)) - if IntKind.wrap IntKind.i64 (Int.tdiv mf pi) > (1 : Int) then IntKind.wrap IntKind.i64 (Int.tdiv mf pi) else (1 : Int)) + (1 : Int))))) (0 : Nat)))))) (.ret (.one (.v false (.int .i64 (if IntKind.wrap IntKind.i64 (IntKind.wrap IntKind.i64 ((if IntKind.wrap IntKind.i64 (Int.tdiv mf pi) > (1 : Int) then IntKind.wrap IntKind.i64 (Int.tdiv mf pi) else (1 : Int)) + Prod.fst (Prod.snd (sea_g ((0 : Int), if IntKind.wrap IntKind.i64 (Int.tdiv mf pi) > (1 : Int) then IntKind.wrap IntKind.i64 (Int.tdiv mf pi) else (1 : Int), pi, he, wa, tp, bo, pa, sp, su, re, ga, br, sk, dr, fe, tr, rt, mt, mf, nz, bd, L) ((0 : Int), IntKind.wrap IntKind.i64 (IntKind.wrap IntKind.i64 ((if IntKind.wrap IntKind.i64 (Int.tdiv fe pi) > (1 : Int) then IntKind.wrap IntKind.i64 (Int.tdiv fe pi) else (1 : Int)) - if IntKind.wrap IntKind.i64 (Int.tdiv mf pi) > (1 : Int) then IntKind.wrap IntKind.i64 (Int.tdiv mf pi) else (1 : Int)) + (1 : Int)))))) - (1 : Int)) > if IntKind.wrap IntKind.i64 (Int.tdiv mf pi) > (1 : Int) then IntKind.wrap IntKind.i64 (Int.tdiv mf pi) else (1 : Int) then IntKind.wrap IntKind.i64 (IntKind.wrap IntKind.i64 ((if IntKind.wrap IntKind.i64 (Int.tdiv mf pi) > (1 : Int) then IntKind.wrap IntKind.i64 (Int.tdiv mf pi) else (1 : Int)) + Prod.fst (Prod.snd (sea_g ((0 : Int), if IntKind.wrap IntKind.i64 (Int.tdiv mf pi) > (1 : Int) then IntKind.wrap IntKind.i64 (Int.tdiv mf pi) else (1 : Int), pi, he, wa, tp, bo, pa, sp, su, re, ga, br, sk, dr, fe, tr, rt, mt, mf, nz, bd, L) ((0 : Int), IntKind.wrap IntKind.i64 (IntKind.wrap IntKind.i64 ((if IntKind.wrap IntKind.i64 (Int.tdiv fe pi) > (1 : Int) then IntKind.wrap IntKind.i64 (Int.tdiv fe pi) else (1 : Int)) - if IntKind.wrap IntKind.i64 (Int.tdiv mf pi) > (1 : Int) then IntKind.wrap IntKind.i64 (Int.tdiv mf pi) else (1 : Int)) + (1 : Int)))))) - (1 : Int)) else if IntKind.wrap IntKind.i64 (Int.tdiv mf pi) > (1 : Int) then IntKind.wrap IntKind.i64 (Int.tdiv mf pi) else (1 : Int)))))) (.bad 116) := by kernel_rfl
theorem spf_val (L : (Ty.list (.prod (.int .i64) (.prod (.int .i64) (.prod (.int .i64) (.prod (.int .i64) (.prod (.int .i64) (.list (.prod (.int .i64) (.int .i64))))))))).den) (pi : Int) (he : Int) (wa : Int) (tp : Int) (bo : Int) (pa : Int) (sp : Int) (su : Bool) (re : Int) (ga : Int) (br : Int) (sk : Int) (dr : Int) (fe : Int) (tr : Int) (rt : Int) (mt : Int) (mf : Int) (nz : Int) (bd : Int) (hc : (lOk L && sv pi he wa tp bo pa sp su re ga br sk dr fe tr rt mt mf nz bd) = true) : (.br (((pi != (0 : Int)) && ((pi != (0 : Int)) && ((sea_cond ((0 : Int), if IntKind.wrap IntKind.i64 (Int.tdiv mf pi) > (1 : Int) then IntKind.wrap IntKind.i64 (Int.tdiv mf pi) else (1 : Int), pi, he, wa, tp, bo, pa, sp, su, re, ga, br, sk, dr, fe, tr, rt, mt, mf, nz, bd, L) ((0 : Int), IntKind.wrap IntKind.i64 (IntKind.wrap IntKind.i64 ((if IntKind.wrap IntKind.i64 (Int.tdiv fe pi) > (1 : Int) then IntKind.wrap IntKind.i64 (Int.tdiv fe pi) else (1 : Int)) - if IntKind.wrap IntKind.i64 (Int.tdiv mf pi) > (1 : Int) then IntKind.wrap IntKind.i64 (Int.tdiv mf pi) else (1 : Int)) + (1 : Int)))) && (Nat.beq (Prod.fst (sea_g ((0 : Int), if IntKind.wrap IntKind.i64 (Int.tdiv mf pi) > (1 : Int) then IntKind.wrap IntKind.i64 (Int.tdiv mf pi) else (1 : Int), pi, he, wa, tp, bo, pa, sp, su, re, ga, br, sk, dr, fe, tr, rt, mt, mf, nz, bd, L) ((0 : Int), IntKind.wrap IntKind.i64 (IntKind.wrap IntKind.i64 ((if IntKind.wrap IntKind.i64 (Int.tdiv fe pi) > (1 : Int) then IntKind.wrap IntKind.i64 (Int.tdiv fe pi) else (1 : Int)) - if IntKind.wrap IntKind.i64 (Int.tdiv mf pi) > (1 : Int) then IntKind.wrap IntKind.i64 (Int.tdiv mf pi) else (1 : Int)) + (1 : Int))))) (0 : Nat)))))) (.ret (.one (.v false (.int .i64 (if IntKind.wrap IntKind.i64 (IntKind.wrap IntKind.i64 ((if IntKind.wrap IntKind.i64 (Int.tdiv mf pi) > (1 : Int) then IntKind.wrap IntKind.i64 (Int.tdiv mf pi) else (1 : Int)) + Prod.fst (Prod.snd (sea_g ((0 : Int), if IntKind.wrap IntKind.i64 (Int.tdiv mf pi) > (1 : Int) then IntKind.wrap IntKind.i64 (Int.tdiv mf pi) else (1 : Int), pi, he, wa, tp, bo, pa, sp, su, re, ga, br, sk, dr, fe, tr, rt, mt, mf, nz, bd, L) ((0 : Int), IntKind.wrap IntKind.i64 (IntKind.wrap IntKind.i64 ((if IntKind.wrap IntKind.i64 (Int.tdiv fe pi) > (1 : Int) then IntKind.wrap IntKind.i64 (Int.tdiv fe pi) else (1 : Int)) - if IntKind.wrap IntKind.i64 (Int.tdiv mf pi) > (1 : Int) then IntKind.wrap IntKind.i64 (Int.tdiv mf pi) else (1 : Int)) + (1 : Int)))))) - (1 : Int)) > if IntKind.wrap IntKind.i64 (Int.tdiv mf pi) > (1 : Int) then IntKind.wrap IntKind.i64 (Int.tdiv mf pi) else (1 : Int) then IntKind.wrap IntKind.i64 (IntKind.wrap IntKind.i64 ((if IntKind.wrap IntKind.i64 (Int.tdiv mf pi) > (1 : Int) then IntKind.wrap IntKind.i64 (Int.tdiv mf pi) else (1 : Int)) + Prod.fst (Prod.snd (sea_g ((0 : Int), if IntKind.wrap IntKind.i64 (Int.tdiv mf pi) > (1 : Int) then IntKind.wrap IntKind.i64 (Int.tdiv mf pi) else (1 : Int), pi, he, wa, tp, bo, pa, sp, su, re, ga, br, sk, dr, fe, tr, rt, mt, mf, nz, bd, L) ((0 : Int), IntKind.wrap IntKind.i64 (IntKind.wrap IntKind.i64 ((if IntKind.wrap IntKind.i64 (Int.tdiv fe pi) > (1 : Int) then IntKind.wrap IntKind.i64 (Int.tdiv fe pi) else (1 : Int)) - if IntKind.wrap IntKind.i64 (Int.tdiv mf pi) > (1 : Int) then IntKind.wrap IntKind.i64 (Int.tdiv mf pi) else (1 : Int)) + (1 : Int)))))) - (1 : Int)) else if IntKind.wrap IntKind.i64 (Int.tdiv mf pi) > (1 : Int) then IntKind.wrap IntKind.i64 (Int.tdiv mf pi) else (1 : Int)))))) (.bad 116) : Tr AV).val = some (.one (.v false (.int .i64 (spV L pi he wa tp bo pa sp su re ga br sk dr fe tr rt mt mf nz bd)))) := by
  rw [Bool.and_eq_true] at hc
  obtain ⟨hL, hs⟩ := hc
  obtain ⟨p, f, g⟩ := sv_sp hs
  obtain ⟨w1, a1, a2⟩ := slw_in p.1 g.1 (by omega)
  obtain ⟨w2, b1, b2⟩ := slw_in p.1 f.1 f.2
  have mo := slw_mono p.1 g.1 g.2
  have e1 : (if Int.tdiv mf pi > 1 then Int.tdiv mf pi else 1) = slw mf pi := rfl
  have e2 : (if Int.tdiv fe pi > 1 then Int.tdiv fe pi else 1) = slw fe pi := rfl
  have pz : (pi != (0 : Int)) = true := by simp; omega
  have w3 : IntKind.wrap IntKind.i64 (slw fe pi - slw mf pi) = slw fe pi - slw mf pi := wid (by omega) (by omega)
  have w4 : IntKind.wrap IntKind.i64 (slw fe pi - slw mf pi + 1) = slw fe pi - slw mf pi + 1 := wid (by omega) (by omega)
  obtain ⟨r1, r2, r, r3, r4, r5, _⟩ := sea_run hL (z := 0) (sl := slw mf pi) (n := slw fe pi - slw mf pi + 1) pi he wa tp bo pa sp re ga br sk dr fe tr rt mt mf nz bd su (by omega) (by omega) ⟨a1, a2⟩
  have w5 : IntKind.wrap IntKind.i64 (slw mf pi + r) = slw mf pi + r := wid (by omega) (by omega)
  have w6 : IntKind.wrap IntKind.i64 (slw mf pi + r - 1) = slw mf pi + r - 1 := wid (by omega) (by omega)
  have e3 : (if slw mf pi + r - 1 > slw mf pi then slw mf pi + r - 1 else slw mf pi) = max (slw mf pi) (slw mf pi + r - 1) := by split <;> omega
  have e4 : spV L pi he wa tp bo pa sp su re ga br sk dr fe tr rt mt mf nz bd = max (slw mf pi) (slw mf pi + r - 1) := by unfold spV seaR; rw [r3]
  show cond _ _ _ = _
  simp only [w1, w2, e1, e2, pz, w3, w4, r1, r2, r3, w5, w6, e3, e4, Nat.beq, Bool.and_self, cond_true, Tr.val]
noncomputable def spf_g : List AV → Option (Tr AV)
  | [.one (.d _ _ (.prod (.int .i64) (.prod (.int .i64) (.prod (.int .i64) (.prod (.int .i64) (.prod (.int .i64) (.list (.prod (.int .i64) (.int .i64)))))))) L), .ag [.v _ (.int .i64 pi), .v _ (.int .i64 he), .v _ (.int .i64 wa), .v _ (.int .i64 tp), .v _ (.int .i64 bo), .v _ (.int .i64 pa), .v _ (.int .i64 sp), .v _ (.bool su), .v _ (.int .i64 re), .v _ (.int .i64 ga), .v _ (.int .i64 br), .v _ (.int .i64 sk), .v _ (.int .i64 dr), .v _ (.int .i64 fe), .v _ (.int .i64 tr), .v _ (.int .i64 rt), .v _ (.int .i64 mt), .v _ (.int .i64 mf), .v _ (.int .i64 nz), .v _ (.int .i64 bd)]] => some (.br (lOk L && sv pi he wa tp bo pa sp su re ga br sk dr fe tr rt mt mf nz bd) (.ret (.one (.v false (.int .i64 (spV L pi he wa tp bo pa sp su re ga br sk dr fe tr rt mt mf nz bd))))) (.bad 900))
  | _ => none
set_option maxHeartbeats 4000000 in
theorem spf_ok : FunOK Try.prog 36 spf_g := by
  refine fun_ok (by kernel_rfl) (coC_S53_ok) (coB_L53_ok) 9 (On := (opens [])) (fun args t h => ?_)
  unfold spf_g at h
  split at h
  · rename_i _ _ L _ pi _ he _ wa _ tp _ bo _ pa _ sp _ su _ re _ ga _ br _ sk _ dr _ fe _ tr _ rt _ mt _ mf _ nz _ bd
    simp only [Option.some.injEq] at h
    subst h
    refine ⟨[.one (.d false false (.prod (.int .i64) (.prod (.int .i64) (.prod (.int .i64) (.prod (.int .i64) (.prod (.int .i64) (.list (.prod (.int .i64) (.int .i64)))))))) L), .ag [.v false (.int .i64 pi), .v false (.int .i64 he), .v false (.int .i64 wa), .v false (.int .i64 tp), .v false (.int .i64 bo), .v false (.int .i64 pa), .v false (.int .i64 sp), .v false (.bool su), .v false (.int .i64 re), .v false (.int .i64 ga), .v false (.int .i64 br), .v false (.int .i64 sk), .v false (.int .i64 dr), .v false (.int .i64 fe), .v false (.int .i64 tr), .v false (.int .i64 rt), .v false (.int .i64 mt), .v false (.int .i64 mf), .v false (.int .i64 nz), .v false (.int .i64 bd)]], rfl, fun fr w us h => h, fun r hr => ?_⟩
    obtain ⟨hc, hr⟩ := br_bad hr
    simp only [Tr.val, Option.some.injEq] at hr
    subst hr
    rw [spf_tree]
    exact spf_val L pi he wa tp bo pa sp su re ga br sk dr fe tr rt mt mf nz bd hc
  · cases h
noncomputable def coC_S54 : Sums := addS 36 spf_g coC_S53
theorem coC_S54_ok : SumOK Try.prog coC_S54 := addS_ok (spf_ok) (coC_S53_ok)
set_option maxRecDepth 100000 in
theorem rsp_tree (pi : Int) (he : Int) (wa : Int) (tp : Int) (bo : Int) (pa : Int) (sp : Int) (su : Bool) (re : Int) (ga : Int) (br : Int) (sk : Int) (dr : Int) (fe : Int) (tr : Int) (rt : Int) (mt : Int) (mf : Int) (nz : Int) (bd : Int) : evalF Try.prog coC_S54 (opens []) coB_L53 9 23 [.ag [.v false (.int .i64 pi), .v false (.int .i64 he), .v false (.int .i64 wa), .v false (.int .i64 tp), .v false (.int .i64 bo), .v false (.int .i64 pa), .v false (.int .i64 sp), .v false (.bool su), .v false (.int .i64 re), .v false (.int .i64 ga), .v false (.int .i64 br), .v false (.int .i64 sk), .v false (.int .i64 dr), .v false (.int .i64 fe), .v false (.int .i64 tr), .v false (.int .i64 rt), .v false (.int .i64 mt), .v false (.int .i64 mf), .v false (.int .i64 nz), .v false (.int .i64 bd)]] = .br (((pi != (0 : Int)) && (pi != (0 : Int)))) (.ret (.tup [(false, [.v false (.int .i64 (if IntKind.wrap IntKind.i64 (Int.tdiv mf pi) > (1 : Int) then IntKind.wrap IntKind.i64 (Int.tdiv mf pi) else (1 : Int)))]), (false, [.v false (.int .i64 (if IntKind.wrap IntKind.i64 (Int.tdiv fe pi) > (1 : Int) then IntKind.wrap IntKind.i64 (Int.tdiv fe pi) else (1 : Int)))])])) (.bad 116) := by kernel_rfl
theorem rsp_val (pi : Int) (he : Int) (wa : Int) (tp : Int) (bo : Int) (pa : Int) (sp : Int) (su : Bool) (re : Int) (ga : Int) (br : Int) (sk : Int) (dr : Int) (fe : Int) (tr : Int) (rt : Int) (mt : Int) (mf : Int) (nz : Int) (bd : Int) (hc : (sv pi he wa tp bo pa sp su re ga br sk dr fe tr rt mt mf nz bd) = true) : (.br (((pi != (0 : Int)) && (pi != (0 : Int)))) (.ret (.tup [(false, [.v false (.int .i64 (if IntKind.wrap IntKind.i64 (Int.tdiv mf pi) > (1 : Int) then IntKind.wrap IntKind.i64 (Int.tdiv mf pi) else (1 : Int)))]), (false, [.v false (.int .i64 (if IntKind.wrap IntKind.i64 (Int.tdiv fe pi) > (1 : Int) then IntKind.wrap IntKind.i64 (Int.tdiv fe pi) else (1 : Int)))])])) (.bad 116) : Tr AV).val = some (.tup [(false, [.v false (.int .i64 (slw mf pi))]), (false, [.v false (.int .i64 (slw fe pi))])]) := by
  obtain ⟨p, f, g⟩ := sv_sp hc
  obtain ⟨w1, _, _⟩ := slw_in p.1 g.1 (by omega)
  obtain ⟨w2, _, _⟩ := slw_in p.1 f.1 f.2
  have pz : (pi != (0 : Int)) = true := by simp; omega
  show cond _ _ _ = _
  simp only [w1, w2, pz, Bool.and_self, cond_true, Tr.val]
  rfl
noncomputable def rsp_g : List AV → Option (Tr AV)
  | [.ag [.v _ (.int .i64 pi), .v _ (.int .i64 he), .v _ (.int .i64 wa), .v _ (.int .i64 tp), .v _ (.int .i64 bo), .v _ (.int .i64 pa), .v _ (.int .i64 sp), .v _ (.bool su), .v _ (.int .i64 re), .v _ (.int .i64 ga), .v _ (.int .i64 br), .v _ (.int .i64 sk), .v _ (.int .i64 dr), .v _ (.int .i64 fe), .v _ (.int .i64 tr), .v _ (.int .i64 rt), .v _ (.int .i64 mt), .v _ (.int .i64 mf), .v _ (.int .i64 nz), .v _ (.int .i64 bd)]] => some (.br (sv pi he wa tp bo pa sp su re ga br sk dr fe tr rt mt mf nz bd) (.ret (.tup [(false, [.v false (.int .i64 (slw mf pi))]), (false, [.v false (.int .i64 (slw fe pi))])])) (.bad 900))
  | _ => none
set_option maxHeartbeats 4000000 in
theorem rsp_ok : FunOK Try.prog 23 rsp_g := by
  refine fun_ok (by kernel_rfl) (coC_S54_ok) (coB_L53_ok) 9 (On := (opens [])) (fun args t h => ?_)
  unfold rsp_g at h
  split at h
  · rename_i _ pi _ he _ wa _ tp _ bo _ pa _ sp _ su _ re _ ga _ br _ sk _ dr _ fe _ tr _ rt _ mt _ mf _ nz _ bd
    simp only [Option.some.injEq] at h
    subst h
    refine ⟨[.ag [.v false (.int .i64 pi), .v false (.int .i64 he), .v false (.int .i64 wa), .v false (.int .i64 tp), .v false (.int .i64 bo), .v false (.int .i64 pa), .v false (.int .i64 sp), .v false (.bool su), .v false (.int .i64 re), .v false (.int .i64 ga), .v false (.int .i64 br), .v false (.int .i64 sk), .v false (.int .i64 dr), .v false (.int .i64 fe), .v false (.int .i64 tr), .v false (.int .i64 rt), .v false (.int .i64 mt), .v false (.int .i64 mf), .v false (.int .i64 nz), .v false (.int .i64 bd)]], rfl, fun fr w us h => h, fun r hr => ?_⟩
    obtain ⟨hc, hr⟩ := br_bad hr
    simp only [Tr.val, Option.some.injEq] at hr
    subst hr
    rw [rsp_tree]
    exact rsp_val pi he wa tp bo pa sp su re ga br sk dr fe tr rt mt mf nz bd hc
  · cases h
noncomputable def coC_S55 : Sums := addS 23 rsp_g coC_S54
theorem coC_S55_ok : SumOK Try.prog coC_S55 := addS_ok (rsp_ok) (coC_S54_ok)
end Go.Proofs.Ytbmdbejoignenaa
