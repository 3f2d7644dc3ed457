/-
  Layer 35: settings, volumes, positions.
-/
import Derived.Test.YtfceajcfackidaaProg
import Derived.Test.YtfceajcfackidaaFvX
import Derived.Test.YtfceajcfackidaaFvZ
import Derived.Test.YtfceajcfackidaaAut
import Derived.Test.YtfceajcfackidaaPl
namespace Go.Proofs.Ytfceajcfackidaa
open Go
set_option maxRecDepth 100000 in
theorem aw6_tree : evalF Try.prog S0 (opens []) L0 9 6 [] = .ret (.one (.v true (.bool true))) := by kernel_rfl
def flA_S2 : Sums := addS 6 gTrue S0
theorem flA_S2_ok : SumOK Try.prog flA_S2 := addS_ok (gTrue_ok (by kernel_rfl) (S0_ok _) (L0_ok _) aw6_tree) (S0_ok _)
set_option maxRecDepth 100000 in
theorem out_tree (n : Int) (lo : Int) (hi : Int) : evalF Try.prog flA_S2 (opens []) L0 9 15 [.one (.v false (.int .i64 n)), .one (.v false (.int .i64 lo)), .one (.v false (.int .i64 hi))] = .ret (.one (.v false (.bool (bif decide (n < lo) then true else decide (n > hi))))) := by kernel_rfl
set_option maxHeartbeats 4000000 in
theorem out_val (n : Int) (lo : Int) (hi : Int) : (.ret (.one (.v false (.bool (bif decide (n < lo) then true else decide (n > hi))))) : Tr AV).val = some (.one (.v false (.bool (decide (n < lo) || decide (n > hi))))) := by
  cases decide (n < lo) <;> rfl
def out_g : List AV → Option (Tr AV)
  | [.one (.v _ (.int .i64 n)), .one (.v _ (.int .i64 lo)), .one (.v _ (.int .i64 hi))] => some (.ret (.one (.v false (.bool (decide (n < lo) || decide (n > hi))))))
  | _ => none
set_option maxHeartbeats 4000000 in
theorem out_ok : FunOK Try.prog 15 out_g := by
  refine fun_ok (by kernel_rfl) (flA_S2_ok) (L0_ok _) 9 (On := (opens [])) (fun args t h => ?_)
  unfold out_g at h
  split at h
  · rename_i _ n _ lo _ hi
    simp only [Option.some.injEq] at h
    subst h
    refine ⟨[.one (.v false (.int .i64 n)), .one (.v false (.int .i64 lo)), .one (.v false (.int .i64 hi))], rfl, fun fr w us h => h, fun r hr => ?_⟩
    simp only [Tr.val, Option.some.injEq] at hr
    subst hr
    rw [out_tree]
    exact out_val n lo hi
  · cases h
def flA_S3 : Sums := addS 15 out_g flA_S2
theorem flA_S3_ok : SumOK Try.prog flA_S3 := addS_ok (out_ok) (flA_S2_ok)
def svP (pi he wa tp bo pa sp : Int) (_su : Bool) (re ga br sk dr fe tr rt mt mf nz bd : Int) : Prop := (32 ≤ pi ∧ pi ≤ 1024 ∧ Int.tmod pi 2 = 0) ∧ (4 ≤ he ∧ he ≤ 1024 ∧ Int.tmod he 2 = 0) ∧ (0 ≤ wa ∧ wa ≤ 8) ∧ (0 ≤ tp ∧ tp ≤ 16) ∧ (0 ≤ bo ∧ bo ≤ 16) ∧ (0 ≤ pa ∧ pa ≤ 3) ∧ (1 ≤ sp ∧ sp ≤ 64) ∧ (0 ≤ re ∧ re ≤ 64) ∧ (0 ≤ ga ∧ ga ≤ 64) ∧ (0 ≤ br ∧ br ≤ 64) ∧ (0 ≤ sk ∧ sk ≤ 63) ∧ (1 ≤ dr ∧ dr ≤ 1073741824) ∧ (1 ≤ fe ∧ fe ≤ 1048576) ∧ (1 ≤ tr ∧ tr ≤ 1048576) ∧ (0 ≤ rt ∧ rt ≤ 65536) ∧ (0 ≤ mt ∧ mt ≤ 1048576) ∧ (0 ≤ nz ∧ nz ≤ 400000) ∧ (0 ≤ bd ∧ bd ≤ 400000) ∧ (1 ≤ mf ∧ mf ≤ fe)
instance (pi he wa tp bo pa sp : Int) (su : Bool) (re ga br sk dr fe tr rt mt mf nz bd : Int) : Decidable (svP pi he wa tp bo pa sp su re ga br sk dr fe tr rt mt mf nz bd) := by unfold svP; infer_instance
def sv (pi he wa tp bo pa sp : Int) (su : Bool) (re ga br sk dr fe tr rt mt mf nz bd : Int) : Bool := decide (svP pi he wa tp bo pa sp su re ga br sk dr fe tr rt mt mf nz bd)
set_option maxRecDepth 100000 in
theorem fv_tree (pi : Int) (he : Int) (wa : Int) (tp : Int) (bo : Int) (pa : Int) (sp : Int) (su : Bool) (re : Int) (ga : Int) (br : Int) (sk : Int) (dr : Int) (fe : Int) (tr : Int) (rt : Int) (mt : Int) (mf : Int) (nz : Int) (bd : Int) : evalF Try.prog flA_S3 (opens []) L0 9 13 [.ag [.v false (.int .i64 pi), .v false (.int .i64 he), .v false (.int .i64 wa), .v false (.int .i64 tp), .v false (.int .i64 bo), .v false (.int .i64 pa), .v false (.int .i64 sp), .v false (.bool su), .v false (.int .i64 re), .v false (.int .i64 ga), .v false (.int .i64 br), .v false (.int .i64 sk), .v false (.int .i64 dr), .v false (.int .i64 fe), .v false (.int .i64 tr), .v false (.int .i64 rt), .v false (.int .i64 mt), .v false (.int .i64 mf), .v false (.int .i64 nz), .v false (.int .i64 bd)]] = .ret (.one (.v false (.bool ((bif bif bif Int.tmod pi (2 : Int) != (0 : Int) then true else decide (pi < (32 : Int)) || decide (pi > (1024 : Int)) then true else Int.tmod he (2 : Int) != (0 : Int) then true else decide (he < (4 : Int)) || decide (he > (1024 : Int))) == false && ((bif bif decide (wa < (0 : Int)) || decide (wa > (8 : Int)) then true else decide (tp < (0 : Int)) || decide (tp > (16 : Int)) then true else decide (bo < (0 : Int)) || decide (bo > (16 : Int))) == false && ((bif decide (pa < (0 : Int)) || decide (pa > (3 : Int)) then true else decide (sp < (1 : Int)) || decide (sp > (64 : Int))) == false && ((bif bif bif decide (re < (0 : Int)) || decide (re > (64 : Int)) then true else decide (ga < (0 : Int)) || decide (ga > (64 : Int)) then true else decide (br < (0 : Int)) || decide (br > (64 : Int)) then true else decide (sk < (0 : Int)) || decide (sk > (63 : Int))) == false && ((bif decide (dr < (1 : Int)) || decide (dr > (1073741824 : Int)) then true else decide (rt < (0 : Int)) || decide (rt > (65536 : Int))) == false && ((bif decide (fe < (1 : Int)) || decide (fe > (1048576 : Int)) then true else decide (tr < (1 : Int)) || decide (tr > (1048576 : Int))) == false && ((bif decide (mt < (0 : Int)) || decide (mt > (1048576 : Int)) then true else decide (mf < (1 : Int)) || decide (mf > fe)) == false && ((bif decide (nz < (0 : Int)) || decide (nz > (400000 : Int)) then true else decide (bd < (0 : Int)) || decide (bd > (400000 : Int))) == false && true))))))))))) := by kernel_rfl
set_option maxHeartbeats 4000000 in
theorem fv_val (pi : Int) (he : Int) (wa : Int) (tp : Int) (bo : Int) (pa : Int) (sp : Int) (su : Bool) (re : Int) (ga : Int) (br : Int) (sk : Int) (dr : Int) (fe : Int) (tr : Int) (rt : Int) (mt : Int) (mf : Int) (nz : Int) (bd : Int) : (.ret (.one (.v false (.bool ((bif bif bif Int.tmod pi (2 : Int) != (0 : Int) then true else decide (pi < (32 : Int)) || decide (pi > (1024 : Int)) then true else Int.tmod he (2 : Int) != (0 : Int) then true else decide (he < (4 : Int)) || decide (he > (1024 : Int))) == false && ((bif bif decide (wa < (0 : Int)) || decide (wa > (8 : Int)) then true else decide (tp < (0 : Int)) || decide (tp > (16 : Int)) then true else decide (bo < (0 : Int)) || decide (bo > (16 : Int))) == false && ((bif decide (pa < (0 : Int)) || decide (pa > (3 : Int)) then true else decide (sp < (1 : Int)) || decide (sp > (64 : Int))) == false && ((bif bif bif decide (re < (0 : Int)) || decide (re > (64 : Int)) then true else decide (ga < (0 : Int)) || decide (ga > (64 : Int)) then true else decide (br < (0 : Int)) || decide (br > (64 : Int)) then true else decide (sk < (0 : Int)) || decide (sk > (63 : Int))) == false && ((bif decide (dr < (1 : Int)) || decide (dr > (1073741824 : Int)) then true else decide (rt < (0 : Int)) || decide (rt > (65536 : Int))) == false && ((bif decide (fe < (1 : Int)) || decide (fe > (1048576 : Int)) then true else decide (tr < (1 : Int)) || decide (tr > (1048576 : Int))) == false && ((bif decide (mt < (0 : Int)) || decide (mt > (1048576 : Int)) then true else decide (mf < (1 : Int)) || decide (mf > fe)) == false && ((bif decide (nz < (0 : Int)) || decide (nz > (400000 : Int)) then true else decide (bd < (0 : Int)) || decide (bd > (400000 : Int))) == false && true))))))))))) : Tr AV).val = some (.one (.v false (.bool (sv pi he wa tp bo pa sp su re ga br sk dr fe tr rt mt mf nz bd)))) := by
  refine congrArg (fun b => some (AV.one (.v false (.bool b)))) ?_
  rw [Bool.eq_iff_iff]
  unfold sv
  rw [decide_eq_true_iff]
  unfold svP
  generalize Int.tmod pi 2 = x1
  generalize Int.tmod he 2 = x2
  simp only [Bool.cond_eq_ite]
  constructor
  · intro h
    simp at h ⊢
    omega
  · intro h
    simp at h ⊢
    omega
def fv_g : List AV → Option (Tr AV)
  | [.ag [.v _ (.int .i64 pi), .v _ (.int .i64 he), .v _ (.int .i64 wa), .v _ (.int .i64 tp), .v _ (.int .i64 bo), .v _ (.int .i64 pa), .v _ (.int .i64 sp), .v _ (.bool su), .v _ (.int .i64 re), .v _ (.int .i64 ga), .v _ (.int .i64 br), .v _ (.int .i64 sk), .v _ (.int .i64 dr), .v _ (.int .i64 fe), .v _ (.int .i64 tr), .v _ (.int .i64 rt), .v _ (.int .i64 mt), .v _ (.int .i64 mf), .v _ (.int .i64 nz), .v _ (.int .i64 bd)]] => some (.ret (.one (.v false (.bool (sv pi he wa tp bo pa sp su re ga br sk dr fe tr rt mt mf nz bd)))))
  | _ => none
set_option maxHeartbeats 4000000 in
theorem fv_ok : FunOK Try.prog 13 fv_g := by
  refine fun_ok (by kernel_rfl) (flA_S3_ok) (L0_ok _) 9 (On := (opens [])) (fun args t h => ?_)
  unfold fv_g at h
  split at h
  · rename_i _ pi _ he _ wa _ tp _ bo _ pa _ sp _ su _ re _ ga _ br _ sk _ dr _ fe _ tr _ rt _ mt _ mf _ nz _ bd
    simp only [Option.some.injEq] at h
    subst h
    refine ⟨[.ag [.v false (.int .i64 pi), .v false (.int .i64 he), .v false (.int .i64 wa), .v false (.int .i64 tp), .v false (.int .i64 bo), .v false (.int .i64 pa), .v false (.int .i64 sp), .v false (.bool su), .v false (.int .i64 re), .v false (.int .i64 ga), .v false (.int .i64 br), .v false (.int .i64 sk), .v false (.int .i64 dr), .v false (.int .i64 fe), .v false (.int .i64 tr), .v false (.int .i64 rt), .v false (.int .i64 mt), .v false (.int .i64 mf), .v false (.int .i64 nz), .v false (.int .i64 bd)]], rfl, fun fr w us h => h, fun r hr => ?_⟩
    simp only [Tr.val, Option.some.injEq] at hr
    subst hr
    rw [fv_tree]
    exact fv_val pi he wa tp bo pa sp su re ga br sk dr fe tr rt mt mf nz bd
  · cases h
def flA_S4 : Sums := addS 13 fv_g flA_S3
theorem flA_S4_ok : SumOK Try.prog flA_S4 := addS_ok (fv_ok) (flA_S3_ok)
set_option maxRecDepth 100000 in
theorem rv_tree (pi : Int) (he : Int) (wa : Int) (tp : Int) (bo : Int) (pa : Int) (sp : Int) (su : Bool) (re : Int) (ga : Int) (br : Int) (sk : Int) (dr : Int) (fe : Int) (tr : Int) (rt : Int) (mt : Int) (mf : Int) (nz : Int) (bd : Int) : evalF Try.prog flA_S4 (opens []) L0 9 5 [.ag [.v false (.int .i64 pi), .v false (.int .i64 he), .v false (.int .i64 wa), .v false (.int .i64 tp), .v false (.int .i64 bo), .v false (.int .i64 pa), .v false (.int .i64 sp), .v false (.bool su), .v false (.int .i64 re), .v false (.int .i64 ga), .v false (.int .i64 br), .v false (.int .i64 sk), .v false (.int .i64 dr), .v false (.int .i64 fe), .v false (.int .i64 tr), .v false (.int .i64 rt), .v false (.int .i64 mt), .v false (.int .i64 mf), .v false (.int .i64 nz), .v false (.int .i64 bd)]] = .ret (.one (.v false (.bool (bif bif bif bif !bif decide (pi ≥ (32 : Int)) then decide (pi ≤ (1024 : Int)) else false then true else Int.tmod pi (2 : Int) != (0 : Int) then true else !bif decide (he ≥ (4 : Int)) then decide (he ≤ (1024 : Int)) else false then true else Int.tmod he (2 : Int) != (0 : Int) then false else bif bif bif bif bif !bif decide (wa ≥ (0 : Int)) then decide (wa ≤ (8 : Int)) else false then true else !bif decide (tp ≥ (0 : Int)) then decide (tp ≤ (16 : Int)) else false then true else !bif decide (bo ≥ (0 : Int)) then decide (bo ≤ (16 : Int)) else false then true else !bif decide (pa ≥ (0 : Int)) then decide (pa ≤ (3 : Int)) else false then true else !bif decide (sp ≥ (1 : Int)) then decide (sp ≤ (64 : Int)) else false then false else bif bif bif bif !bif decide (re ≥ (0 : Int)) then decide (re ≤ (64 : Int)) else false then true else !bif decide (ga ≥ (0 : Int)) then decide (ga ≤ (64 : Int)) else false then true else !bif decide (br ≥ (0 : Int)) then decide (br ≤ (64 : Int)) else false then true else !bif decide (sk ≥ (0 : Int)) then decide (sk ≤ (63 : Int)) else false then false else bif bif bif bif !bif decide (dr ≥ (1 : Int)) then decide (dr ≤ (1073741824 : Int)) else false then true else !bif decide (fe ≥ (1 : Int)) then decide (fe ≤ (1048576 : Int)) else false then true else !bif decide (tr ≥ (1 : Int)) then decide (tr ≤ (1048576 : Int)) else false then true else !bif decide (rt ≥ (0 : Int)) then decide (rt ≤ (65536 : Int)) else false then false else bif bif bif bif decide (mt ≥ (0 : Int)) then decide (mt ≤ (1048576 : Int)) else false then bif decide (mf ≥ (1 : Int)) then decide (mf ≤ fe) else false else false then bif decide (nz ≥ (0 : Int)) then decide (nz ≤ (400000 : Int)) else false else false then bif decide (bd ≥ (0 : Int)) then decide (bd ≤ (400000 : Int)) else false else false)))) := by kernel_rfl
set_option maxHeartbeats 4000000 in
theorem rv_val (pi : Int) (he : Int) (wa : Int) (tp : Int) (bo : Int) (pa : Int) (sp : Int) (su : Bool) (re : Int) (ga : Int) (br : Int) (sk : Int) (dr : Int) (fe : Int) (tr : Int) (rt : Int) (mt : Int) (mf : Int) (nz : Int) (bd : Int) : (.ret (.one (.v false (.bool (bif bif bif bif !bif decide (pi ≥ (32 : Int)) then decide (pi ≤ (1024 : Int)) else false then true else Int.tmod pi (2 : Int) != (0 : Int) then true else !bif decide (he ≥ (4 : Int)) then decide (he ≤ (1024 : Int)) else false then true else Int.tmod he (2 : Int) != (0 : Int) then false else bif bif bif bif bif !bif decide (wa ≥ (0 : Int)) then decide (wa ≤ (8 : Int)) else false then true else !bif decide (tp ≥ (0 : Int)) then decide (tp ≤ (16 : Int)) else false then true else !bif decide (bo ≥ (0 : Int)) then decide (bo ≤ (16 : Int)) else false then true else !bif decide (pa ≥ (0 : Int)) then decide (pa ≤ (3 : Int)) else false then true else !bif decide (sp ≥ (1 : Int)) then decide (sp ≤ (64 : Int)) else false then false else bif bif bif bif !bif decide (re ≥ (0 : Int)) then decide (re ≤ (64 : Int)) else false then true else !bif decide (ga ≥ (0 : Int)) then decide (ga ≤ (64 : Int)) else false then true else !bif decide (br ≥ (0 : Int)) then decide (br ≤ (64 : Int)) else false then true else !bif decide (sk ≥ (0 : Int)) then decide (sk ≤ (63 : Int)) else false then false else bif bif bif bif !bif decide (dr ≥ (1 : Int)) then decide (dr ≤ (1073741824 : Int)) else false then true else !bif decide (fe ≥ (1 : Int)) then decide (fe ≤ (1048576 : Int)) else false then true else !bif decide (tr ≥ (1 : Int)) then decide (tr ≤ (1048576 : Int)) else false then true else !bif decide (rt ≥ (0 : Int)) then decide (rt ≤ (65536 : Int)) else false then false else bif bif bif bif decide (mt ≥ (0 : Int)) then decide (mt ≤ (1048576 : Int)) else false then bif decide (mf ≥ (1 : Int)) then decide (mf ≤ fe) else false else false then bif decide (nz ≥ (0 : Int)) then decide (nz ≤ (400000 : Int)) else false else false then bif decide (bd ≥ (0 : Int)) then decide (bd ≤ (400000 : Int)) else false else false)))) : Tr AV).val = some (.one (.v false (.bool (sv pi he wa tp bo pa sp su re ga br sk dr fe tr rt mt mf nz bd)))) := by
  refine congrArg (fun b => some (AV.one (.v false (.bool b)))) ?_
  rw [Bool.eq_iff_iff]
  unfold sv
  rw [decide_eq_true_iff]
  unfold svP
  generalize Int.tmod pi 2 = x1
  generalize Int.tmod he 2 = x2
  simp only [Bool.cond_eq_ite]
  constructor
  · intro h
    simp at h ⊢
    omega
  · intro h
    simp at h ⊢
    omega
def rv_g : List AV → Option (Tr AV)
  | [.ag [.v _ (.int .i64 pi), .v _ (.int .i64 he), .v _ (.int .i64 wa), .v _ (.int .i64 tp), .v _ (.int .i64 bo), .v _ (.int .i64 pa), .v _ (.int .i64 sp), .v _ (.bool su), .v _ (.int .i64 re), .v _ (.int .i64 ga), .v _ (.int .i64 br), .v _ (.int .i64 sk), .v _ (.int .i64 dr), .v _ (.int .i64 fe), .v _ (.int .i64 tr), .v _ (.int .i64 rt), .v _ (.int .i64 mt), .v _ (.int .i64 mf), .v _ (.int .i64 nz), .v _ (.int .i64 bd)]] => some (.ret (.one (.v false (.bool (sv pi he wa tp bo pa sp su re ga br sk dr fe tr rt mt mf nz bd)))))
  | _ => none
set_option maxHeartbeats 4000000 in
theorem rv_ok : FunOK Try.prog 5 rv_g := by
  refine fun_ok (by kernel_rfl) (flA_S4_ok) (L0_ok _) 9 (On := (opens [])) (fun args t h => ?_)
  unfold rv_g at h
  split at h
  · rename_i _ pi _ he _ wa _ tp _ bo _ pa _ sp _ su _ re _ ga _ br _ sk _ dr _ fe _ tr _ rt _ mt _ mf _ nz _ bd
    simp only [Option.some.injEq] at h
    subst h
    refine ⟨[.ag [.v false (.int .i64 pi), .v false (.int .i64 he), .v false (.int .i64 wa), .v false (.int .i64 tp), .v false (.int .i64 bo), .v false (.int .i64 pa), .v false (.int .i64 sp), .v false (.bool su), .v false (.int .i64 re), .v false (.int .i64 ga), .v false (.int .i64 br), .v false (.int .i64 sk), .v false (.int .i64 dr), .v false (.int .i64 fe), .v false (.int .i64 tr), .v false (.int .i64 rt), .v false (.int .i64 mt), .v false (.int .i64 mf), .v false (.int .i64 nz), .v false (.int .i64 bd)]], rfl, fun fr w us h => h, fun r hr => ?_⟩
    simp only [Tr.val, Option.some.injEq] at hr
    subst hr
    rw [rv_tree]
    exact rv_val pi he wa tp bo pa sp su re ga br sk dr fe tr rt mt mf nz bd
  · cases h
def flA_S5 : Sums := addS 5 rv_g flA_S4
theorem flA_S5_ok : SumOK Try.prog flA_S5 := addS_ok (rv_ok) (flA_S4_ok)
end Go.Proofs.Ytfceajcfackidaa
