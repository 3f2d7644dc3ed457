/-
  Layer 51: reading, writing, failing, power.
-/
import Derived.Test.YtabjagbdaamaaaaProg
import Derived.Test.YtabjagbdaamaaaaFvX
import Derived.Test.YtabjagbdaamaaaaFvZ
import Derived.Test.YtabjagbdaamaaaaAut
import Derived.Test.YtabjagbdaamaaaaRd
import Derived.Test.YtabjagbdaamaaaaPl
import Derived.Test.YtabjagbdaamaaaaScn
import Derived.Test.YtabjagbdaamaaaaFsA
import Derived.Test.YtabjagbdaamaaaaFld
import Derived.Test.YtabjagbdaamaaaaRpl
import Derived.Test.YtabjagbdaamaaaaFsB
namespace Go.Proofs.Ytabjagbdaamaaaa
open Go
def wok (P : List ByteArray) (fu ke I : Int) : Bool := fvl P fu ke && decide (0 ≤ I ∧ I < P.length)
def wod (P : List ByteArray) (fu ke I : Int) (D : ByteArray) : Bool := wok P fu ke I && decide ((D.size : Int) = 64)
def trn (p D : ByteArray) (ke : Int) : ByteArray := D.extract 0 ke.toNat ++ p.extract ke.toNat 64
def wrP (P : List ByteArray) (fu : Int) (de : Bool) (ke I : Int) (D : ByteArray) : List ByteArray := bif !wod P fu ke I D then P else bif de then P else bif fu == 1 then P.set I.toNat (trn (el_s P I) D ke) else P.set I.toNat D
def wrF (P : List ByteArray) (fu : Int) (de : Bool) (ke I : Int) (D : ByteArray) : Int := bif !wod P fu ke I D then fu else bif de then fu else bif fu == 1 then 0 else max 0 (fu - 1)
def wrD (P : List ByteArray) (fu : Int) (de : Bool) (ke I : Int) (D : ByteArray) : Bool := bif !wod P fu ke I D then de else bif de then de else bif fu == 1 then true else de
def wrK (P : List ByteArray) (fu : Int) (de : Bool) (ke I : Int) (D : ByteArray) : Int := bif !wod P fu ke I D then ke else bif de then ke else bif fu == 1 then 0 else ke
def wrE (P : List ByteArray) (fu : Int) (de : Bool) (ke I : Int) (D : ByteArray) : Int := bif !wod P fu ke I D then 1 else bif de then 17 else bif fu == 1 then 17 else 0
def rdS (P : List ByteArray) (fu : Int) (de : Bool) (ke I : Int) : ByteArray := bif !wok P fu ke I then ⟨#[]⟩ else bif de then ⟨#[]⟩ else el_s P I
def rdE (P : List ByteArray) (fu : Int) (de : Bool) (ke I : Int) : Int := bif !wok P fu ke I then 1 else bif de then 17 else 0
def pwF (P : List ByteArray) (fu ke : Int) : Int := bif fvl P fu ke then 0 else fu
def pwD (P : List ByteArray) (fu : Int) (de : Bool) (ke : Int) : Bool := bif fvl P fu ke then false else de
def pwK (P : List ByteArray) (fu ke : Int) : Int := bif fvl P fu ke then 0 else ke
def flF (P : List ByteArray) (fu : Int) (de : Bool) (ke n : Int) : Int := bif bif !fvl P fu ke then true else de then fu else bif decide (n < 1) then 0 else min n 1048576
def flD (P : List ByteArray) (fu : Int) (de : Bool) (ke n : Int) : Bool := bif bif !fvl P fu ke then true else de then de else bif decide (n < 1) then true else de
def flK (P : List ByteArray) (fu : Int) (de : Bool) (ke n k : Int) : Int := bif bif !fvl P fu ke then true else de then ke else bif decide (n < 1) then 0 else max 0 (min k 64)
theorem wok_a (P : List ByteArray) (fu ke I : Int) : (bif bif fvl P fu ke then decide (I ≥ (0 : Int)) else false then decide (I < (↑(List.length P) : Int)) else false) = wok P fu ke I := by
  unfold wok
  cases fvl P fu ke
  · rfl
  · simp only [cond_true, Bool.true_and]
    rw [Bool.eq_iff_iff]
    simp [Bool.cond_eq_ite]
theorem wok_b (P : List ByteArray) (fu ke I : Int) : (bif bif !fvl P fu ke then true else decide (I < (0 : Int)) then true else decide (I ≥ (↑(List.length P) : Int))) = !wok P fu ke I := by
  unfold wok
  cases fvl P fu ke
  · rfl
  · simp only [cond_false, Bool.true_and, Bool.not_true]
    rw [Bool.eq_iff_iff]
    simp [Bool.cond_eq_ite]
theorem wod_c (P : List ByteArray) (fu ke I : Int) (D : ByteArray) : (bif !wok P fu ke I then true else (↑(ByteArray.size D) : Int) != (64 : Int)) = !wod P fu ke I D := by
  unfold wod
  cases wok P fu ke I
  · rfl
  · simp only [cond_false, Bool.true_and, Bool.not_true]
    rw [Bool.eq_iff_iff]
    simp
theorem wok_is {P : List ByteArray} {fu ke I : Int} (h : wok P fu ke I = true) : P.all p64 = true ∧ P.length ≤ 256 ∧ 0 ≤ fu ∧ fu ≤ 1048576 ∧ 0 ≤ ke ∧ ke ≤ 64 ∧ 0 ≤ I ∧ I < P.length := by
  unfold wok fvl at h
  simp only [Bool.and_eq_true, decide_eq_true_eq] at h
  obtain ⟨⟨h1, h2⟩, h3⟩ := h
  exact ⟨h1, by omega, by omega, by omega, by omega, by omega, by omega, by omega⟩
theorem wok_size {P : List ByteArray} {fu ke I : Int} (h : wok P fu ke I = true) : (el_s P I).size = 64 := by
  obtain ⟨h1, _, _, _, _, _, h2, h3⟩ := wok_is h
  obtain ⟨n, rfl⟩ : ∃ n : Nat, I = n := ⟨I.toNat, by omega⟩
  have hn : n < P.length := by omega
  rw [el_s_lt hn]
  have := List.all_eq_true.1 h1 _ (List.getElem_mem hn)
  unfold p64 at this
  have := of_decide_eq_true this
  omega
theorem rpl_all {p d : ByteArray} (h : p.size = d.size) : rpl p d = d := by
  unfold rpl
  rw [← h, List.drop_of_length_le (by simp)]
  simp
theorem rpl_trn {p d : ByteArray} {ke : Int} (hp : p.size = 64) (hd : d.size = 64) (k0 : 0 ≤ ke) (k1 : ke ≤ 64) : rpl p (d.extract (Int.toNat 0) ke.toNat) = trn p d ke := by
  have hs : (d.extract 0 ke.toNat).size = ke.toNat := by rw [ByteArray.size_extract]; omega
  unfold rpl trn
  have hp' : p.data.toList.length = 64 := by simpa using hp
  have e : p.data.toList.drop ke.toNat = (p.extract ke.toNat 64).data.toList := by
    rw [ByteArray.data_extract, Array.toList_extract, List.extract_eq_take_drop, List.take_of_length_le (by simp; omega)]
  rw [show Int.toNat 0 = 0 from rfl, hs, e, ← ByteArray.toList_data_append]
theorem rd_cond {P : List ByteArray} {fu ke I : Int} (de : Bool) : (bif !wok P fu ke I then true else (bif de then true else (decide ((0 : Int) ≤ I) && decide (I < (↑(List.length P) : Int))))) = true := by
  cases h : wok P fu ke I
  · rfl
  · obtain ⟨_, _, _, _, _, _, h2, h3⟩ := wok_is h
    simp [h2, h3]
set_option maxRecDepth 100000 in
theorem rda_tree (P : (Ty.list .str).den) (fu : Int) (de : Bool) (ke : Int) (I : Int) : evalF Try.prog fsB_S56 (opens []) fsB_L54 9 15 [.ag [.d false false .str P, .v false (.int .i64 fu), .v false (.bool de), .v false (.int .i64 ke)], .one (.v false (.int .i64 I))] = .br ((((decide ((↑(List.length P) : Int) ≤ (9223372036854775806 : Int)))) && (bif !bif bif fvl P fu ke then decide (I ≥ (0 : Int)) else false then decide (I < (↑(List.length P) : Int)) else false then true else (bif de then true else (decide ((0 : Int) ≤ I) && decide (I < (↑(List.length P) : Int))))))) (.ret (.tup [(false, [.v false (.string (bif !bif bif fvl P fu ke then decide (I ≥ (0 : Int)) else false then decide (I < (↑(List.length P) : Int)) else false then (ByteArray.mk #[]) else bif de then (ByteArray.mk #[]) else el_s P I))]), (false, [.v false (.int .i64 (bif !bif bif fvl P fu ke then decide (I ≥ (0 : Int)) else false then decide (I < (↑(List.length P) : Int)) else false then (1 : Int) else bif de then (17 : Int) else (0 : Int)))])])) (.bad 116) := by kernel_rfl
theorem rda_val (P : (Ty.list .str).den) (fu : Int) (de : Bool) (ke : Int) (I : Int) (hc : (decide (List.length P ≤ 4096)) = true) : (.br ((((decide ((↑(List.length P) : Int) ≤ (9223372036854775806 : Int)))) && (bif !bif bif fvl P fu ke then decide (I ≥ (0 : Int)) else false then decide (I < (↑(List.length P) : Int)) else false then true else (bif de then true else (decide ((0 : Int) ≤ I) && decide (I < (↑(List.length P) : Int))))))) (.ret (.tup [(false, [.v false (.string (bif !bif bif fvl P fu ke then decide (I ≥ (0 : Int)) else false then decide (I < (↑(List.length P) : Int)) else false then (ByteArray.mk #[]) else bif de then (ByteArray.mk #[]) else el_s P I))]), (false, [.v false (.int .i64 (bif !bif bif fvl P fu ke then decide (I ≥ (0 : Int)) else false then decide (I < (↑(List.length P) : Int)) else false then (1 : Int) else bif de then (17 : Int) else (0 : Int)))])])) (.bad 116) : Tr AV).val = some (.tup [(false, [.v false (.string (rdS P fu de ke I))]), (false, [.v false (.int .i64 (rdE P fu de ke I))])]) := by
  have hc := of_decide_eq_true hc
  have l1 := lenI (n := List.length P) (by omega)
  show cond _ _ _ = _
  simp only [wok_a, wok_b, l1, rd_cond, Bool.and_self, Bool.true_and, cond_true, Tr.val]
  rfl
noncomputable def rda_g : List AV → Option (Tr AV)
  | [.ag [.d _ _ .str P, .v _ (.int .i64 fu), .v _ (.bool de), .v _ (.int .i64 ke)], .one (.v _ (.int .i64 I))] => some (.br (decide (List.length P ≤ 4096)) (.ret (.tup [(false, [.v false (.string (rdS P fu de ke I))]), (false, [.v false (.int .i64 (rdE P fu de ke I))])])) (.bad 900))
  | _ => none
set_option maxHeartbeats 4000000 in
theorem rda_ok : FunOK Try.prog 15 rda_g := by
  refine fun_ok (by kernel_rfl) (fsB_S56_ok) (fsB_L54_ok) 9 (On := (opens [])) (fun args t h => ?_)
  unfold rda_g at h
  split at h
  · rename_i _ _ P _ fu _ de _ ke _ I
    simp only [Option.some.injEq] at h
    subst h
    refine ⟨[.ag [.d false false .str P, .v false (.int .i64 fu), .v false (.bool de), .v false (.int .i64 ke)], .one (.v false (.int .i64 I))], rfl, fun fr w us h => h, fun r hr => ?_⟩
    obtain ⟨hc, hr⟩ := br_bad hr
    simp only [Tr.val, Option.some.injEq] at hr
    subst hr
    rw [rda_tree]
    exact rda_val P fu de ke I hc
  · cases h
noncomputable def fsC_S51 : Sums := addS 15 rda_g fsB_S56
theorem fsC_S51_ok : SumOK Try.prog fsC_S51 := addS_ok (rda_ok) (fsB_S56_ok)
set_option maxRecDepth 100000 in
theorem rdb_tree (P : (Ty.list .str).den) (fu : Int) (de : Bool) (ke : Int) (I : Int) : evalF Try.prog fsC_S51 (opens []) fsB_L54 9 16 [.ag [.d false false .str P, .v false (.int .i64 fu), .v false (.bool de), .v false (.int .i64 ke)], .one (.v false (.int .i64 I))] = .br (((decide ((↑(List.length P) : Int) ≤ (9223372036854775806 : Int))) && (bif bif bif !fvl P fu ke then true else decide (I < (0 : Int)) then true else decide (I ≥ (↑(List.length P) : Int)) then true else (bif de then true else (decide ((0 : Int) ≤ I) && decide (I < (↑(List.length P) : Int))))))) (.ret (.tup [(false, [.v false (.string (bif bif bif !fvl P fu ke then true else decide (I < (0 : Int)) then true else decide (I ≥ (↑(List.length P) : Int)) then (ByteArray.mk #[]) else bif de then (ByteArray.mk #[]) else el_s P I))]), (false, [.v false (.int .i64 (bif bif bif !fvl P fu ke then true else decide (I < (0 : Int)) then true else decide (I ≥ (↑(List.length P) : Int)) then (1 : Int) else bif de then (17 : Int) else (0 : Int)))])])) (.bad 116) := by kernel_rfl
theorem rdb_val (P : (Ty.list .str).den) (fu : Int) (de : Bool) (ke : Int) (I : Int) (hc : (decide (List.length P ≤ 4096)) = true) : (.br (((decide ((↑(List.length P) : Int) ≤ (9223372036854775806 : Int))) && (bif bif bif !fvl P fu ke then true else decide (I < (0 : Int)) then true else decide (I ≥ (↑(List.length P) : Int)) then true else (bif de then true else (decide ((0 : Int) ≤ I) && decide (I < (↑(List.length P) : Int))))))) (.ret (.tup [(false, [.v false (.string (bif bif bif !fvl P fu ke then true else decide (I < (0 : Int)) then true else decide (I ≥ (↑(List.length P) : Int)) then (ByteArray.mk #[]) else bif de then (ByteArray.mk #[]) else el_s P I))]), (false, [.v false (.int .i64 (bif bif bif !fvl P fu ke then true else decide (I < (0 : Int)) then true else decide (I ≥ (↑(List.length P) : Int)) then (1 : Int) else bif de then (17 : Int) else (0 : Int)))])])) (.bad 116) : Tr AV).val = some (.tup [(false, [.v false (.string (rdS P fu de ke I))]), (false, [.v false (.int .i64 (rdE P fu de ke I))])]) := by
  have hc := of_decide_eq_true hc
  have l1 := lenI (n := List.length P) (by omega)
  show cond _ _ _ = _
  simp only [wok_a, wok_b, l1, rd_cond, Bool.and_self, Bool.true_and, cond_true, Tr.val]
  rfl
noncomputable def rdb_g : List AV → Option (Tr AV)
  | [.ag [.d _ _ .str P, .v _ (.int .i64 fu), .v _ (.bool de), .v _ (.int .i64 ke)], .one (.v _ (.int .i64 I))] => some (.br (decide (List.length P ≤ 4096)) (.ret (.tup [(false, [.v false (.string (rdS P fu de ke I))]), (false, [.v false (.int .i64 (rdE P fu de ke I))])])) (.bad 900))
  | _ => none
set_option maxHeartbeats 4000000 in
theorem rdb_ok : FunOK Try.prog 16 rdb_g := by
  refine fun_ok (by kernel_rfl) (fsC_S51_ok) (fsB_L54_ok) 9 (On := (opens [])) (fun args t h => ?_)
  unfold rdb_g at h
  split at h
  · rename_i _ _ P _ fu _ de _ ke _ I
    simp only [Option.some.injEq] at h
    subst h
    refine ⟨[.ag [.d false false .str P, .v false (.int .i64 fu), .v false (.bool de), .v false (.int .i64 ke)], .one (.v false (.int .i64 I))], rfl, fun fr w us h => h, fun r hr => ?_⟩
    obtain ⟨hc, hr⟩ := br_bad hr
    simp only [Tr.val, Option.some.injEq] at hr
    subst hr
    rw [rdb_tree]
    exact rdb_val P fu de ke I hc
  · cases h
noncomputable def fsC_S52 : Sums := addS 16 rdb_g fsC_S51
theorem fsC_S52_ok : SumOK Try.prog fsC_S52 := addS_ok (rdb_ok) (fsC_S51_ok)
set_option maxRecDepth 100000 in
theorem pwa_tree (P : (Ty.list .str).den) (fu : Int) (de : Bool) (ke : Int) : evalF Try.prog fsC_S52 (opens []) fsB_L54 9 21 [.ag [.d false false .str P, .v false (.int .i64 fu), .v false (.bool de), .v false (.int .i64 ke)]] = .br ((((decide (List.length P * (16 : Nat) ≤ maxNew) && decide (List.length P ≤ maxLen))) && (decide ((↑(List.length P) : Int) ≤ (9223372036854775806 : Int))))) (.ret (.ag [.d false false .str (bif fvl P fu ke then P else P), .v false (.int .i64 (bif fvl P fu ke then (0 : Int) else fu)), .v false (.bool (bif fvl P fu ke then false else de)), .v false (.int .i64 (bif fvl P fu ke then (0 : Int) else ke))])) (.bad 116) := by kernel_rfl
theorem pwa_val (P : (Ty.list .str).den) (fu : Int) (de : Bool) (ke : Int) (hc : (decide (List.length P ≤ 4096)) = true) : (.br ((((decide (List.length P * (16 : Nat) ≤ maxNew) && decide (List.length P ≤ maxLen))) && (decide ((↑(List.length P) : Int) ≤ (9223372036854775806 : Int))))) (.ret (.ag [.d false false .str (bif fvl P fu ke then P else P), .v false (.int .i64 (bif fvl P fu ke then (0 : Int) else fu)), .v false (.bool (bif fvl P fu ke then false else de)), .v false (.int .i64 (bif fvl P fu ke then (0 : Int) else ke))])) (.bad 116) : Tr AV).val = some (.ag [.d false false .str P, .v false (.int .i64 (pwF P fu ke)), .v false (.bool (pwD P fu de ke)), .v false (.int .i64 (pwK P fu ke))]) := by
  have hc := of_decide_eq_true hc
  have l1 := lenI (n := List.length P) (by omega)
  obtain ⟨r1, r2⟩ := room16 (n := List.length P) (by omega)
  show cond _ _ _ = _
  simp only [l1, r1, r2, Nat.zero_add, Bool.and_self, cond_true, Tr.val, cond_same]
  rfl
noncomputable def pwa_g : List AV → Option (Tr AV)
  | [.ag [.d _ _ .str P, .v _ (.int .i64 fu), .v _ (.bool de), .v _ (.int .i64 ke)]] => some (.br (decide (List.length P ≤ 4096)) (.ret (.ag [.d false false .str P, .v false (.int .i64 (pwF P fu ke)), .v false (.bool (pwD P fu de ke)), .v false (.int .i64 (pwK P fu ke))])) (.bad 900))
  | _ => none
set_option maxHeartbeats 4000000 in
theorem pwa_ok : FunOK Try.prog 21 pwa_g := by
  refine fun_ok (by kernel_rfl) (fsC_S52_ok) (fsB_L54_ok) 9 (On := (opens [])) (fun args t h => ?_)
  unfold pwa_g at h
  split at h
  · rename_i _ _ P _ fu _ de _ ke
    simp only [Option.some.injEq] at h
    subst h
    refine ⟨[.ag [.d false false .str P, .v false (.int .i64 fu), .v false (.bool de), .v false (.int .i64 ke)]], rfl, fun fr w us h => h, fun r hr => ?_⟩
    obtain ⟨hc, hr⟩ := br_bad hr
    simp only [Tr.val, Option.some.injEq] at hr
    subst hr
    rw [pwa_tree]
    exact pwa_val P fu de ke hc
  · cases h
noncomputable def fsC_S53 : Sums := addS 21 pwa_g fsC_S52
theorem fsC_S53_ok : SumOK Try.prog fsC_S53 := addS_ok (pwa_ok) (fsC_S52_ok)
set_option maxRecDepth 100000 in
theorem pwb_tree (P : (Ty.list .str).den) (fu : Int) (de : Bool) (ke : Int) : evalF Try.prog fsC_S53 (opens []) fsB_L54 9 23 [.ag [.d false false .str P, .v false (.int .i64 fu), .v false (.bool de), .v false (.int .i64 ke)]] = .br ((((decide (((0 : Nat) + List.length P) * (16 : Nat) ≤ maxNew) && decide ((0 : Nat) + List.length P ≤ maxLen))) && (decide ((↑(List.length P) : Int) ≤ (9223372036854775806 : Int))))) (.ret (.ag [.d false false .str (bif fvl P fu ke then P else P), .v false (.int .i64 (bif fvl P fu ke then (0 : Int) else fu)), .v false (.bool (bif fvl P fu ke then false else de)), .v false (.int .i64 (bif fvl P fu ke then (0 : Int) else ke))])) (.bad 116) := by kernel_rfl
theorem pwb_val (P : (Ty.list .str).den) (fu : Int) (de : Bool) (ke : Int) (hc : (decide (List.length P ≤ 4096)) = true) : (.br ((((decide (((0 : Nat) + List.length P) * (16 : Nat) ≤ maxNew) && decide ((0 : Nat) + List.length P ≤ maxLen))) && (decide ((↑(List.length P) : Int) ≤ (9223372036854775806 : Int))))) (.ret (.ag [.d false false .str (bif fvl P fu ke then P else P), .v false (.int .i64 (bif fvl P fu ke then (0 : Int) else fu)), .v false (.bool (bif fvl P fu ke then false else de)), .v false (.int .i64 (bif fvl P fu ke then (0 : Int) else ke))])) (.bad 116) : Tr AV).val = some (.ag [.d false false .str P, .v false (.int .i64 (pwF P fu ke)), .v false (.bool (pwD P fu de ke)), .v false (.int .i64 (pwK P fu ke))]) := by
  have hc := of_decide_eq_true hc
  have l1 := lenI (n := List.length P) (by omega)
  obtain ⟨r1, r2⟩ := room16 (n := List.length P) (by omega)
  show cond _ _ _ = _
  simp only [l1, r1, r2, Nat.zero_add, Bool.and_self, cond_true, Tr.val, cond_same]
  rfl
noncomputable def pwb_g : List AV → Option (Tr AV)
  | [.ag [.d _ _ .str P, .v _ (.int .i64 fu), .v _ (.bool de), .v _ (.int .i64 ke)]] => some (.br (decide (List.length P ≤ 4096)) (.ret (.ag [.d false false .str P, .v false (.int .i64 (pwF P fu ke)), .v false (.bool (pwD P fu de ke)), .v false (.int .i64 (pwK P fu ke))])) (.bad 900))
  | _ => none
set_option maxHeartbeats 4000000 in
theorem pwb_ok : FunOK Try.prog 23 pwb_g := by
  refine fun_ok (by kernel_rfl) (fsC_S53_ok) (fsB_L54_ok) 9 (On := (opens [])) (fun args t h => ?_)
  unfold pwb_g at h
  split at h
  · rename_i _ _ P _ fu _ de _ ke
    simp only [Option.some.injEq] at h
    subst h
    refine ⟨[.ag [.d false false .str P, .v false (.int .i64 fu), .v false (.bool de), .v false (.int .i64 ke)]], rfl, fun fr w us h => h, fun r hr => ?_⟩
    obtain ⟨hc, hr⟩ := br_bad hr
    simp only [Tr.val, Option.some.injEq] at hr
    subst hr
    rw [pwb_tree]
    exact pwb_val P fu de ke hc
  · cases h
noncomputable def fsC_S54 : Sums := addS 23 pwb_g fsC_S53
theorem fsC_S54_ok : SumOK Try.prog fsC_S54 := addS_ok (pwb_ok) (fsC_S53_ok)
set_option maxRecDepth 100000 in
theorem fla_tree (P : (Ty.list .str).den) (fu : Int) (de : Bool) (ke : Int) (n : Int) (k : Int) : evalF Try.prog fsC_S54 (opens []) fsB_L54 9 20 [.ag [.d false false .str P, .v false (.int .i64 fu), .v false (.bool de), .v false (.int .i64 ke)], .one (.v false (.int .i64 n)), .one (.v false (.int .i64 k))] = .br ((((decide (List.length P * (16 : Nat) ≤ maxNew) && decide (List.length P ≤ maxLen))) && (decide ((↑(List.length P) : Int) ≤ (9223372036854775806 : Int))))) (.ret (.ag [.d false false .str (bif bif !fvl P fu ke then true else de then P else bif decide (n < (1 : Int)) then P else P), .v false (.int .i64 (bif bif !fvl P fu ke then true else de then fu else bif decide (n < (1 : Int)) then (0 : Int) else if (1048576 : Int) < n then (1048576 : Int) else n)), .v false (.bool (bif bif !fvl P fu ke then true else de then de else bif decide (n < (1 : Int)) then true else de)), .v false (.int .i64 (bif bif !fvl P fu ke then true else de then ke else bif decide (n < (1 : Int)) then (0 : Int) else if (if (64 : Int) < k then (64 : Int) else k) > (0 : Int) then if (64 : Int) < k then (64 : Int) else k else (0 : Int)))])) (.bad 116) := by kernel_rfl
theorem fla_val (P : (Ty.list .str).den) (fu : Int) (de : Bool) (ke : Int) (n : Int) (k : Int) (hc : (decide (List.length P ≤ 4096)) = true) : (.br ((((decide (List.length P * (16 : Nat) ≤ maxNew) && decide (List.length P ≤ maxLen))) && (decide ((↑(List.length P) : Int) ≤ (9223372036854775806 : Int))))) (.ret (.ag [.d false false .str (bif bif !fvl P fu ke then true else de then P else bif decide (n < (1 : Int)) then P else P), .v false (.int .i64 (bif bif !fvl P fu ke then true else de then fu else bif decide (n < (1 : Int)) then (0 : Int) else if (1048576 : Int) < n then (1048576 : Int) else n)), .v false (.bool (bif bif !fvl P fu ke then true else de then de else bif decide (n < (1 : Int)) then true else de)), .v false (.int .i64 (bif bif !fvl P fu ke then true else de then ke else bif decide (n < (1 : Int)) then (0 : Int) else if (if (64 : Int) < k then (64 : Int) else k) > (0 : Int) then if (64 : Int) < k then (64 : Int) else k else (0 : Int)))])) (.bad 116) : Tr AV).val = some (.ag [.d false false .str P, .v false (.int .i64 (flF P fu de ke n)), .v false (.bool (flD P fu de ke n)), .v false (.int .i64 (flK P fu de ke n k))]) := by
  have hc := of_decide_eq_true hc
  have l1 := lenI (n := List.length P) (by omega)
  obtain ⟨r1, r2⟩ := room16 (n := List.length P) (by omega)
  show cond _ _ _ = _
  have m1 : (if (1048576 : Int) < n then (1048576 : Int) else n) = min n 1048576 := by split <;> omega
  have m2 : (if (if (64 : Int) < k then (64 : Int) else k) > (0 : Int) then if (64 : Int) < k then (64 : Int) else k else (0 : Int)) = max 0 (min k 64) := by split <;> split <;> omega
  simp only [l1, r1, r2, m1, m2, Nat.zero_add, Bool.and_self, cond_true, Tr.val, cond_same]
  rfl
noncomputable def fla_g : List AV → Option (Tr AV)
  | [.ag [.d _ _ .str P, .v _ (.int .i64 fu), .v _ (.bool de), .v _ (.int .i64 ke)], .one (.v _ (.int .i64 n)), .one (.v _ (.int .i64 k))] => some (.br (decide (List.length P ≤ 4096)) (.ret (.ag [.d false false .str P, .v false (.int .i64 (flF P fu de ke n)), .v false (.bool (flD P fu de ke n)), .v false (.int .i64 (flK P fu de ke n k))])) (.bad 900))
  | _ => none
set_option maxHeartbeats 4000000 in
theorem fla_ok : FunOK Try.prog 20 fla_g := by
  refine fun_ok (by kernel_rfl) (fsC_S54_ok) (fsB_L54_ok) 9 (On := (opens [])) (fun args t h => ?_)
  unfold fla_g at h
  split at h
  · rename_i _ _ P _ fu _ de _ ke _ n _ k
    simp only [Option.some.injEq] at h
    subst h
    refine ⟨[.ag [.d false false .str P, .v false (.int .i64 fu), .v false (.bool de), .v false (.int .i64 ke)], .one (.v false (.int .i64 n)), .one (.v false (.int .i64 k))], rfl, fun fr w us h => h, fun r hr => ?_⟩
    obtain ⟨hc, hr⟩ := br_bad hr
    simp only [Tr.val, Option.some.injEq] at hr
    subst hr
    rw [fla_tree]
    exact fla_val P fu de ke n k hc
  · cases h
noncomputable def fsC_S55 : Sums := addS 20 fla_g fsC_S54
theorem fsC_S55_ok : SumOK Try.prog fsC_S55 := addS_ok (fla_ok) (fsC_S54_ok)
set_option maxRecDepth 100000 in
theorem flb_tree (P : (Ty.list .str).den) (fu : Int) (de : Bool) (ke : Int) (n : Int) (k : Int) : evalF Try.prog fsC_S55 (opens []) fsB_L54 9 22 [.ag [.d false false .str P, .v false (.int .i64 fu), .v false (.bool de), .v false (.int .i64 ke)], .one (.v false (.int .i64 n)), .one (.v false (.int .i64 k))] = .br ((((decide (((0 : Nat) + List.length P) * (16 : Nat) ≤ maxNew) && decide ((0 : Nat) + List.length P ≤ maxLen))) && (decide ((↑(List.length P) : Int) ≤ (9223372036854775806 : Int))))) (.ret (.ag [.d false false .str (bif bif !fvl P fu ke then true else de then P else bif decide (n < (1 : Int)) then P else P), .v false (.int .i64 (bif bif !fvl P fu ke then true else de then fu else bif decide (n < (1 : Int)) then (0 : Int) else if (1048576 : Int) < n then (1048576 : Int) else n)), .v false (.bool (bif bif !fvl P fu ke then true else de then de else bif decide (n < (1 : Int)) then true else de)), .v false (.int .i64 (bif bif !fvl P fu ke then true else de then ke else bif decide (n < (1 : Int)) then (0 : Int) else if (if (64 : Int) < k then (64 : Int) else k) > (0 : Int) then if (64 : Int) < k then (64 : Int) else k else (0 : Int)))])) (.bad 116) := by kernel_rfl
theorem flb_val (P : (Ty.list .str).den) (fu : Int) (de : Bool) (ke : Int) (n : Int) (k : Int) (hc : (decide (List.length P ≤ 4096)) = true) : (.br ((((decide (((0 : Nat) + List.length P) * (16 : Nat) ≤ maxNew) && decide ((0 : Nat) + List.length P ≤ maxLen))) && (decide ((↑(List.length P) : Int) ≤ (9223372036854775806 : Int))))) (.ret (.ag [.d false false .str (bif bif !fvl P fu ke then true else de then P else bif decide (n < (1 : Int)) then P else P), .v false (.int .i64 (bif bif !fvl P fu ke then true else de then fu else bif decide (n < (1 : Int)) then (0 : Int) else if (1048576 : Int) < n then (1048576 : Int) else n)), .v false (.bool (bif bif !fvl P fu ke then true else de then de else bif decide (n < (1 : Int)) then true else de)), .v false (.int .i64 (bif bif !fvl P fu ke then true else de then ke else bif decide (n < (1 : Int)) then (0 : Int) else if (if (64 : Int) < k then (64 : Int) else k) > (0 : Int) then if (64 : Int) < k then (64 : Int) else k else (0 : Int)))])) (.bad 116) : Tr AV).val = some (.ag [.d false false .str P, .v false (.int .i64 (flF P fu de ke n)), .v false (.bool (flD P fu de ke n)), .v false (.int .i64 (flK P fu de ke n k))]) := by
  have hc := of_decide_eq_true hc
  have l1 := lenI (n := List.length P) (by omega)
  obtain ⟨r1, r2⟩ := room16 (n := List.length P) (by omega)
  show cond _ _ _ = _
  have m1 : (if (1048576 : Int) < n then (1048576 : Int) else n) = min n 1048576 := by split <;> omega
  have m2 : (if (if (64 : Int) < k then (64 : Int) else k) > (0 : Int) then if (64 : Int) < k then (64 : Int) else k else (0 : Int)) = max 0 (min k 64) := by split <;> split <;> omega
  simp only [l1, r1, r2, m1, m2, Nat.zero_add, Bool.and_self, cond_true, Tr.val, cond_same]
  rfl
noncomputable def flb_g : List AV → Option (Tr AV)
  | [.ag [.d _ _ .str P, .v _ (.int .i64 fu), .v _ (.bool de), .v _ (.int .i64 ke)], .one (.v _ (.int .i64 n)), .one (.v _ (.int .i64 k))] => some (.br (decide (List.length P ≤ 4096)) (.ret (.ag [.d false false .str P, .v false (.int .i64 (flF P fu de ke n)), .v false (.bool (flD P fu de ke n)), .v false (.int .i64 (flK P fu de ke n k))])) (.bad 900))
  | _ => none
set_option maxHeartbeats 4000000 in
theorem flb_ok : FunOK Try.prog 22 flb_g := by
  refine fun_ok (by kernel_rfl) (fsC_S55_ok) (fsB_L54_ok) 9 (On := (opens [])) (fun args t h => ?_)
  unfold flb_g at h
  split at h
  · rename_i _ _ P _ fu _ de _ ke _ n _ k
    simp only [Option.some.injEq] at h
    subst h
    refine ⟨[.ag [.d false false .str P, .v false (.int .i64 fu), .v false (.bool de), .v false (.int .i64 ke)], .one (.v false (.int .i64 n)), .one (.v false (.int .i64 k))], rfl, fun fr w us h => h, fun r hr => ?_⟩
    obtain ⟨hc, hr⟩ := br_bad hr
    simp only [Tr.val, Option.some.injEq] at hr
    subst hr
    rw [flb_tree]
    exact flb_val P fu de ke n k hc
  · cases h
noncomputable def fsC_S56 : Sums := addS 22 flb_g fsC_S55
theorem fsC_S56_ok : SumOK Try.prog fsC_S56 := addS_ok (flb_ok) (fsC_S55_ok)
noncomputable def rpc2_g : List AV → Option (Tr AV)
  | [.one (.v _ (.string p)), .one (.v _ (.string d))] => some (.br (decide (d.size ≤ p.size)) (.ret (.one (.v false (.string (rpl p d))))) (.bad 900))
  | _ => none
set_option maxHeartbeats 4000000 in
theorem rpc2_ok : FunOK Try.prog 32 rpc2_g := by
  refine fun_of_calls fun args t h r hr fr w us hus => ?_
  unfold rpc2_g at h
  split at h
  · rename_i _ p _ d
    simp only [Option.some.injEq] at h
    subst h
    obtain ⟨hc, hr⟩ := br_bad hr
    simp only [Tr.val, Option.some.injEq] at hr
    subst hr
    obtain ⟨_, _, rfl, e0, _, _, rfl, e1, rfl⟩ := hus
    cases e0; cases e1
    exact ⟨_, rpl_calls p d (of_decide_eq_true hc) w, fun _ _ => rfl, rfl⟩
  · cases h
noncomputable def fsC_S57 : Sums := addS 32 rpc2_g fsC_S56
theorem fsC_S57_ok : SumOK Try.prog fsC_S57 := addS_ok (rpc2_ok) (fsC_S56_ok)
set_option maxRecDepth 100000 in
theorem wra_tree (P : (Ty.list .str).den) (fu : Int) (de : Bool) (ke : Int) (I : Int) (D : ByteArray) : evalF Try.prog fsC_S57 (opens [31, 34]) fsB_L54 9 18 [.ag [.d false false .str P, .v false (.int .i64 fu), .v false (.bool de), .v false (.int .i64 ke)], .one (.v false (.int .i64 I)), .one (.v false (.string D))] = .br (((decide (List.length P * (16 : Nat) ≤ maxNew) && decide (List.length P ≤ maxLen)) && (((decide ((↑(List.length P) : Int) ≤ (9223372036854775806 : Int)))) && (bif bif !bif bif fvl P fu ke then decide (I ≥ (0 : Int)) else false then decide (I < (↑(List.length P) : Int)) else false then true else (↑(ByteArray.size D) : Int) != (64 : Int) then true else (bif de then true else (bif fu == (1 : Int) then ((decide ((0 : Int) ≤ I) && decide (I < (↑(List.length P) : Int))) && ((decide (Int.toNat I < List.length P)) && ((decide ((0 : Int) ≤ (0 : Int)) && decide ((0 : Int) ≤ ke) && decide (ke ≤ (↑(ByteArray.size D) : Int))) && ((decide (ByteArray.size (ByteArray.extract D (Int.toNat (0 : Int)) (Int.toNat ke)) ≤ ByteArray.size (el_s P I))) && ((decide ((0 : Int) ≤ I) && decide (I < (↑(List.length P) : Int))) && (decide (Int.toNat I < List.length P))))))) else ((decide ((0 : Int) ≤ I) && decide (I < (↑(List.length P) : Int))) && ((decide (Int.toNat I < List.length P)) && ((decide (ByteArray.size D ≤ ByteArray.size (el_s P I))) && ((decide ((0 : Int) ≤ I) && decide (I < (↑(List.length P) : Int))) && (decide (Int.toNat I < List.length P)))))))))))) (.ret (.tup [(true, [.d false false .str (bif bif !bif bif fvl P fu ke then decide (I ≥ (0 : Int)) else false then decide (I < (↑(List.length P) : Int)) else false then true else (↑(ByteArray.size D) : Int) != (64 : Int) then P else bif de then P else bif fu == (1 : Int) then List.set P (Int.toNat I) (rpl (el_s P I) (ByteArray.extract D (Int.toNat (0 : Int)) (Int.toNat ke))) else List.set P (Int.toNat I) (rpl (el_s P I) D)), .v false (.int .i64 (bif bif !bif bif fvl P fu ke then decide (I ≥ (0 : Int)) else false then decide (I < (↑(List.length P) : Int)) else false then true else (↑(ByteArray.size D) : Int) != (64 : Int) then fu else bif de then fu else bif fu == (1 : Int) then (0 : Int) else if IntKind.wrap IntKind.i64 (fu - (1 : Int)) > (0 : Int) then IntKind.wrap IntKind.i64 (fu - (1 : Int)) else (0 : Int))), .v false (.bool (bif bif !bif bif fvl P fu ke then decide (I ≥ (0 : Int)) else false then decide (I < (↑(List.length P) : Int)) else false then true else (↑(ByteArray.size D) : Int) != (64 : Int) then de else bif de then de else bif fu == (1 : Int) then true else de)), .v false (.int .i64 (bif bif !bif bif fvl P fu ke then decide (I ≥ (0 : Int)) else false then decide (I < (↑(List.length P) : Int)) else false then true else (↑(ByteArray.size D) : Int) != (64 : Int) then ke else bif de then ke else bif fu == (1 : Int) then (0 : Int) else ke))]), (false, [.v false (.int .i64 (bif bif !bif bif fvl P fu ke then decide (I ≥ (0 : Int)) else false then decide (I < (↑(List.length P) : Int)) else false then true else (↑(ByteArray.size D) : Int) != (64 : Int) then (1 : Int) else bif de then (17 : Int) else bif fu == (1 : Int) then (17 : Int) else (0 : Int)))])])) (.bad 116) := by kernel_rfl
theorem wra_val (P : (Ty.list .str).den) (fu : Int) (de : Bool) (ke : Int) (I : Int) (D : ByteArray) (hc : (decide (List.length P ≤ 4096)) = true) : (.br (((decide (List.length P * (16 : Nat) ≤ maxNew) && decide (List.length P ≤ maxLen)) && (((decide ((↑(List.length P) : Int) ≤ (9223372036854775806 : Int)))) && (bif bif !bif bif fvl P fu ke then decide (I ≥ (0 : Int)) else false then decide (I < (↑(List.length P) : Int)) else false then true else (↑(ByteArray.size D) : Int) != (64 : Int) then true else (bif de then true else (bif fu == (1 : Int) then ((decide ((0 : Int) ≤ I) && decide (I < (↑(List.length P) : Int))) && ((decide (Int.toNat I < List.length P)) && ((decide ((0 : Int) ≤ (0 : Int)) && decide ((0 : Int) ≤ ke) && decide (ke ≤ (↑(ByteArray.size D) : Int))) && ((decide (ByteArray.size (ByteArray.extract D (Int.toNat (0 : Int)) (Int.toNat ke)) ≤ ByteArray.size (el_s P I))) && ((decide ((0 : Int) ≤ I) && decide (I < (↑(List.length P) : Int))) && (decide (Int.toNat I < List.length P))))))) else ((decide ((0 : Int) ≤ I) && decide (I < (↑(List.length P) : Int))) && ((decide (Int.toNat I < List.length P)) && ((decide (ByteArray.size D ≤ ByteArray.size (el_s P I))) && ((decide ((0 : Int) ≤ I) && decide (I < (↑(List.length P) : Int))) && (decide (Int.toNat I < List.length P)))))))))))) (.ret (.tup [(true, [.d false false .str (bif bif !bif bif fvl P fu ke then decide (I ≥ (0 : Int)) else false then decide (I < (↑(List.length P) : Int)) else false then true else (↑(ByteArray.size D) : Int) != (64 : Int) then P else bif de then P else bif fu == (1 : Int) then List.set P (Int.toNat I) (rpl (el_s P I) (ByteArray.extract D (Int.toNat (0 : Int)) (Int.toNat ke))) else List.set P (Int.toNat I) (rpl (el_s P I) D)), .v false (.int .i64 (bif bif !bif bif fvl P fu ke then decide (I ≥ (0 : Int)) else false then decide (I < (↑(List.length P) : Int)) else false then true else (↑(ByteArray.size D) : Int) != (64 : Int) then fu else bif de then fu else bif fu == (1 : Int) then (0 : Int) else if IntKind.wrap IntKind.i64 (fu - (1 : Int)) > (0 : Int) then IntKind.wrap IntKind.i64 (fu - (1 : Int)) else (0 : Int))), .v false (.bool (bif bif !bif bif fvl P fu ke then decide (I ≥ (0 : Int)) else false then decide (I < (↑(List.length P) : Int)) else false then true else (↑(ByteArray.size D) : Int) != (64 : Int) then de else bif de then de else bif fu == (1 : Int) then true else de)), .v false (.int .i64 (bif bif !bif bif fvl P fu ke then decide (I ≥ (0 : Int)) else false then decide (I < (↑(List.length P) : Int)) else false then true else (↑(ByteArray.size D) : Int) != (64 : Int) then ke else bif de then ke else bif fu == (1 : Int) then (0 : Int) else ke))]), (false, [.v false (.int .i64 (bif bif !bif bif fvl P fu ke then decide (I ≥ (0 : Int)) else false then decide (I < (↑(List.length P) : Int)) else false then true else (↑(ByteArray.size D) : Int) != (64 : Int) then (1 : Int) else bif de then (17 : Int) else bif fu == (1 : Int) then (17 : Int) else (0 : Int)))])])) (.bad 116) : Tr AV).val = some (.tup [(true, [.d false false .str (wrP P fu de ke I D), .v false (.int .i64 (wrF P fu de ke I D)), .v false (.bool (wrD P fu de ke I D)), .v false (.int .i64 (wrK P fu de ke I D))]), (false, [.v false (.int .i64 (wrE P fu de ke I D))])]) := by
  have hc := of_decide_eq_true hc
  have l1 := lenI (n := List.length P) (by omega)
  obtain ⟨r1, r2⟩ := room16 (n := List.length P) (by omega)
  show cond _ _ _ = _
  simp only [wok_a, wok_b, wod_c, l1, r1, r2, Nat.zero_add, Bool.and_self, Bool.true_and, cond_same]
  unfold wrP wrF wrD wrK wrE
  cases hw : wod P fu ke I D
  · simp only [Bool.not_false, cond_true, Tr.val]
  · have hw2 := hw
    unfold wod at hw2
    rw [Bool.and_eq_true, decide_eq_true_eq] at hw2
    have hz := wok_size hw2.1
    obtain ⟨_, h1, h2, h3, h4, h5, h6, h7⟩ := wok_is hw2.1
    have hd : D.size = 64 := by omega
    have q1 : decide ((0 : Int) ≤ I) = true := decide_eq_true h6
    have q2 : decide (I < (P.length : Int)) = true := decide_eq_true h7
    have q3 : decide (I.toNat < P.length) = true := decide_eq_true (by omega)
    have q4 : decide ((0 : Int) ≤ ke) = true := decide_eq_true h4
    have q5 : decide (ke ≤ ((64 : Nat) : Int)) = true := decide_eq_true (by omega)
    have q6 : IntKind.wrap IntKind.i64 (fu - 1) = fu - 1 := wid (by omega) (by omega)
    have q7 : (if fu - 1 > 0 then fu - 1 else 0) = max 0 (fu - 1) := by split <;> omega
    have q8 : (D.extract (Int.toNat 0) ke.toNat).size = ke.toNat := by rw [ByteArray.size_extract]; show min ke.toNat D.size - 0 = _; omega
    have q9 : decide (ke.toNat ≤ 64) = true := decide_eq_true (by omega)
    have q10 : ((el_s P I).extract ke.toNat (Int.toNat ((64 : Nat) : Int))).size ≤ 64 := by rw [ByteArray.size_extract]; omega
    have q11 : decide (((ke.toNat + ((el_s P I).extract ke.toNat (Int.toNat ((64 : Nat) : Int))).size : Nat) : Int) ≤ 9223372036854775807) = true := decide_eq_true (by omega)
    simp only [Bool.not_true, cond_false, q1, q2, q3, q4, q5, q6, q7, q8, q9, q11, hz, hd, Int.le_refl, decide_true, Bool.and_self, cond_same, cond_true, Tr.val, rpl_all (hz.trans hd.symm), rpl_trn hz hd h4 h5]
    cases de
    · cases fu == 1 <;> first | rfl | simp [trn, Tr.val]
    · rfl
noncomputable def wra_g : List AV → Option (Tr AV)
  | [.ag [.d _ _ .str P, .v _ (.int .i64 fu), .v _ (.bool de), .v _ (.int .i64 ke)], .one (.v _ (.int .i64 I)), .one (.v _ (.string D))] => some (.br (decide (List.length P ≤ 4096)) (.ret (.tup [(true, [.d false false .str (wrP P fu de ke I D), .v false (.int .i64 (wrF P fu de ke I D)), .v false (.bool (wrD P fu de ke I D)), .v false (.int .i64 (wrK P fu de ke I D))]), (false, [.v false (.int .i64 (wrE P fu de ke I D))])])) (.bad 900))
  | _ => none
set_option maxHeartbeats 4000000 in
theorem wra_ok : FunOK Try.prog 18 wra_g := by
  refine fun_ok (by kernel_rfl) (fsC_S57_ok) (fsB_L54_ok) 9 (On := (opens [31, 34])) (fun args t h => ?_)
  unfold wra_g at h
  split at h
  · rename_i _ _ P _ fu _ de _ ke _ I _ D
    simp only [Option.some.injEq] at h
    subst h
    refine ⟨[.ag [.d false false .str P, .v false (.int .i64 fu), .v false (.bool de), .v false (.int .i64 ke)], .one (.v false (.int .i64 I)), .one (.v false (.string D))], rfl, fun fr w us h => h, fun r hr => ?_⟩
    obtain ⟨hc, hr⟩ := br_bad hr
    simp only [Tr.val, Option.some.injEq] at hr
    subst hr
    rw [wra_tree]
    exact wra_val P fu de ke I D hc
  · cases h
noncomputable def fsC_S58 : Sums := addS 18 wra_g fsC_S57
theorem fsC_S58_ok : SumOK Try.prog fsC_S58 := addS_ok (wra_ok) (fsC_S57_ok)
set_option maxRecDepth 100000 in
theorem wrb_tree (P : (Ty.list .str).den) (fu : Int) (de : Bool) (ke : Int) (I : Int) (D : ByteArray) : evalF Try.prog fsC_S58 (opens [31, 34]) fsB_L54 9 19 [.ag [.d false false .str P, .v false (.int .i64 fu), .v false (.bool de), .v false (.int .i64 ke)], .one (.v false (.int .i64 I)), .one (.v false (.string D))] = .br (((decide (((0 : Nat) + List.length P) * (16 : Nat) ≤ maxNew) && decide ((0 : Nat) + List.length P ≤ maxLen)) && ((decide ((↑(List.length P) : Int) ≤ (9223372036854775806 : Int))) && (bif bif bif bif !fvl P fu ke then true else decide (I < (0 : Int)) then true else decide (I ≥ (↑(List.length P) : Int)) then true else (↑(ByteArray.size D) : Int) != (64 : Int) then true else (bif de then true else (bif fu == (1 : Int) then ((decide ((0 : Int) ≤ (0 : Int)) && decide ((0 : Int) ≤ ke) && decide (ke ≤ (↑(ByteArray.size D) : Int))) && ((decide ((0 : Int) ≤ I) && decide (I < (↑(List.length P) : Int))) && ((decide ((0 : Int) ≤ ke) && decide (ke ≤ (↑(ByteArray.size (el_s P I)) : Int)) && decide ((↑(ByteArray.size (el_s P I)) : Int) ≤ (↑(ByteArray.size (el_s P I)) : Int))) && ((decide ((↑(ByteArray.size (ByteArray.extract D (Int.toNat (0 : Int)) (Int.toNat ke)) + ByteArray.size (ByteArray.extract (el_s P I) (Int.toNat ke) (Int.toNat (↑(ByteArray.size (el_s P I)) : Int)))) : Int) ≤ (9223372036854775807 : Int))) && ((decide ((0 : Int) ≤ I) && decide (I < (↑(List.length P) : Int))) && (decide (Int.toNat I < List.length P))))))) else ((decide ((0 : Int) ≤ I) && decide (I < (↑(List.length P) : Int))) && (decide (Int.toNat I < List.length P))))))))) (.ret (.tup [(true, [.d false false .str (bif bif bif bif !fvl P fu ke then true else decide (I < (0 : Int)) then true else decide (I ≥ (↑(List.length P) : Int)) then true else (↑(ByteArray.size D) : Int) != (64 : Int) then P else bif de then P else bif fu == (1 : Int) then List.set P (Int.toNat I) (ByteArray.extract D (Int.toNat (0 : Int)) (Int.toNat ke) ++ ByteArray.extract (el_s P I) (Int.toNat ke) (Int.toNat (↑(ByteArray.size (el_s P I)) : Int))) else List.set P (Int.toNat I) D), .v false (.int .i64 (bif bif bif bif !fvl P fu ke then true else decide (I < (0 : Int)) then true else decide (I ≥ (↑(List.length P) : Int)) then true else (↑(ByteArray.size D) : Int) != (64 : Int) then fu else bif de then fu else bif fu == (1 : Int) then (0 : Int) else if IntKind.wrap IntKind.i64 (fu - (1 : Int)) > (0 : Int) then IntKind.wrap IntKind.i64 (fu - (1 : Int)) else (0 : Int))), .v false (.bool (bif bif bif bif !fvl P fu ke then true else decide (I < (0 : Int)) then true else decide (I ≥ (↑(List.length P) : Int)) then true else (↑(ByteArray.size D) : Int) != (64 : Int) then de else bif de then de else bif fu == (1 : Int) then true else de)), .v false (.int .i64 (bif bif bif bif !fvl P fu ke then true else decide (I < (0 : Int)) then true else decide (I ≥ (↑(List.length P) : Int)) then true else (↑(ByteArray.size D) : Int) != (64 : Int) then ke else bif de then ke else bif fu == (1 : Int) then (0 : Int) else ke))]), (false, [.v false (.int .i64 (bif bif bif bif !fvl P fu ke then true else decide (I < (0 : Int)) then true else decide (I ≥ (↑(List.length P) : Int)) then true else (↑(ByteArray.size D) : Int) != (64 : Int) then (1 : Int) else bif de then (17 : Int) else bif fu == (1 : Int) then (17 : Int) else (0 : Int)))])])) (.bad 116) := by kernel_rfl
theorem wrb_val (P : (Ty.list .str).den) (fu : Int) (de : Bool) (ke : Int) (I : Int) (D : ByteArray) (hc : (decide (List.length P ≤ 4096)) = true) : (.br (((decide (((0 : Nat) + List.length P) * (16 : Nat) ≤ maxNew) && decide ((0 : Nat) + List.length P ≤ maxLen)) && ((decide ((↑(List.length P) : Int) ≤ (9223372036854775806 : Int))) && (bif bif bif bif !fvl P fu ke then true else decide (I < (0 : Int)) then true else decide (I ≥ (↑(List.length P) : Int)) then true else (↑(ByteArray.size D) : Int) != (64 : Int) then true else (bif de then true else (bif fu == (1 : Int) then ((decide ((0 : Int) ≤ (0 : Int)) && decide ((0 : Int) ≤ ke) && decide (ke ≤ (↑(ByteArray.size D) : Int))) && ((decide ((0 : Int) ≤ I) && decide (I < (↑(List.length P) : Int))) && ((decide ((0 : Int) ≤ ke) && decide (ke ≤ (↑(ByteArray.size (el_s P I)) : Int)) && decide ((↑(ByteArray.size (el_s P I)) : Int) ≤ (↑(ByteArray.size (el_s P I)) : Int))) && ((decide ((↑(ByteArray.size (ByteArray.extract D (Int.toNat (0 : Int)) (Int.toNat ke)) + ByteArray.size (ByteArray.extract (el_s P I) (Int.toNat ke) (Int.toNat (↑(ByteArray.size (el_s P I)) : Int)))) : Int) ≤ (9223372036854775807 : Int))) && ((decide ((0 : Int) ≤ I) && decide (I < (↑(List.length P) : Int))) && (decide (Int.toNat I < List.length P))))))) else ((decide ((0 : Int) ≤ I) && decide (I < (↑(List.length P) : Int))) && (decide (Int.toNat I < List.length P))))))))) (.ret (.tup [(true, [.d false false .str (bif bif bif bif !fvl P fu ke then true else decide (I < (0 : Int)) then true else decide (I ≥ (↑(List.length P) : Int)) then true else (↑(ByteArray.size D) : Int) != (64 : Int) then P else bif de then P else bif fu == (1 : Int) then List.set P (Int.toNat I) (ByteArray.extract D (Int.toNat (0 : Int)) (Int.toNat ke) ++ ByteArray.extract (el_s P I) (Int.toNat ke) (Int.toNat (↑(ByteArray.size (el_s P I)) : Int))) else List.set P (Int.toNat I) D), .v false (.int .i64 (bif bif bif bif !fvl P fu ke then true else decide (I < (0 : Int)) then true else decide (I ≥ (↑(List.length P) : Int)) then true else (↑(ByteArray.size D) : Int) != (64 : Int) then fu else bif de then fu else bif fu == (1 : Int) then (0 : Int) else if IntKind.wrap IntKind.i64 (fu - (1 : Int)) > (0 : Int) then IntKind.wrap IntKind.i64 (fu - (1 : Int)) else (0 : Int))), .v false (.bool (bif bif bif bif !fvl P fu ke then true else decide (I < (0 : Int)) then true else decide (I ≥ (↑(List.length P) : Int)) then true else (↑(ByteArray.size D) : Int) != (64 : Int) then de else bif de then de else bif fu == (1 : Int) then true else de)), .v false (.int .i64 (bif bif bif bif !fvl P fu ke then true else decide (I < (0 : Int)) then true else decide (I ≥ (↑(List.length P) : Int)) then true else (↑(ByteArray.size D) : Int) != (64 : Int) then ke else bif de then ke else bif fu == (1 : Int) then (0 : Int) else ke))]), (false, [.v false (.int .i64 (bif bif bif bif !fvl P fu ke then true else decide (I < (0 : Int)) then true else decide (I ≥ (↑(List.length P) : Int)) then true else (↑(ByteArray.size D) : Int) != (64 : Int) then (1 : Int) else bif de then (17 : Int) else bif fu == (1 : Int) then (17 : Int) else (0 : Int)))])])) (.bad 116) : Tr AV).val = some (.tup [(true, [.d false false .str (wrP P fu de ke I D), .v false (.int .i64 (wrF P fu de ke I D)), .v false (.bool (wrD P fu de ke I D)), .v false (.int .i64 (wrK P fu de ke I D))]), (false, [.v false (.int .i64 (wrE P fu de ke I D))])]) := by
  have hc := of_decide_eq_true hc
  have l1 := lenI (n := List.length P) (by omega)
  obtain ⟨r1, r2⟩ := room16 (n := List.length P) (by omega)
  show cond _ _ _ = _
  simp only [wok_a, wok_b, wod_c, l1, r1, r2, Nat.zero_add, Bool.and_self, Bool.true_and, cond_same]
  unfold wrP wrF wrD wrK wrE
  cases hw : wod P fu ke I D
  · simp only [Bool.not_false, cond_true, Tr.val]
  · have hw2 := hw
    unfold wod at hw2
    rw [Bool.and_eq_true, decide_eq_true_eq] at hw2
    have hz := wok_size hw2.1
    obtain ⟨_, h1, h2, h3, h4, h5, h6, h7⟩ := wok_is hw2.1
    have hd : D.size = 64 := by omega
    have q1 : decide ((0 : Int) ≤ I) = true := decide_eq_true h6
    have q2 : decide (I < (P.length : Int)) = true := decide_eq_true h7
    have q3 : decide (I.toNat < P.length) = true := decide_eq_true (by omega)
    have q4 : decide ((0 : Int) ≤ ke) = true := decide_eq_true h4
    have q5 : decide (ke ≤ ((64 : Nat) : Int)) = true := decide_eq_true (by omega)
    have q6 : IntKind.wrap IntKind.i64 (fu - 1) = fu - 1 := wid (by omega) (by omega)
    have q7 : (if fu - 1 > 0 then fu - 1 else 0) = max 0 (fu - 1) := by split <;> omega
    have q8 : (D.extract (Int.toNat 0) ke.toNat).size = ke.toNat := by rw [ByteArray.size_extract]; show min ke.toNat D.size - 0 = _; omega
    have q9 : decide (ke.toNat ≤ 64) = true := decide_eq_true (by omega)
    have q10 : ((el_s P I).extract ke.toNat (Int.toNat ((64 : Nat) : Int))).size ≤ 64 := by rw [ByteArray.size_extract]; omega
    have q11 : decide (((ke.toNat + ((el_s P I).extract ke.toNat (Int.toNat ((64 : Nat) : Int))).size : Nat) : Int) ≤ 9223372036854775807) = true := decide_eq_true (by omega)
    simp only [Bool.not_true, cond_false, q1, q2, q3, q4, q5, q6, q7, q8, q9, q11, hz, hd, Int.le_refl, decide_true, Bool.and_self, cond_same, cond_true, Tr.val, rpl_all (hz.trans hd.symm), rpl_trn hz hd h4 h5]
    cases de
    · cases fu == 1 <;> first | rfl | simp [trn, Tr.val]
    · rfl
noncomputable def wrb_g : List AV → Option (Tr AV)
  | [.ag [.d _ _ .str P, .v _ (.int .i64 fu), .v _ (.bool de), .v _ (.int .i64 ke)], .one (.v _ (.int .i64 I)), .one (.v _ (.string D))] => some (.br (decide (List.length P ≤ 4096)) (.ret (.tup [(true, [.d false false .str (wrP P fu de ke I D), .v false (.int .i64 (wrF P fu de ke I D)), .v false (.bool (wrD P fu de ke I D)), .v false (.int .i64 (wrK P fu de ke I D))]), (false, [.v false (.int .i64 (wrE P fu de ke I D))])])) (.bad 900))
  | _ => none
set_option maxHeartbeats 4000000 in
theorem wrb_ok : FunOK Try.prog 19 wrb_g := by
  refine fun_ok (by kernel_rfl) (fsC_S58_ok) (fsB_L54_ok) 9 (On := (opens [31, 34])) (fun args t h => ?_)
  unfold wrb_g at h
  split at h
  · rename_i _ _ P _ fu _ de _ ke _ I _ D
    simp only [Option.some.injEq] at h
    subst h
    refine ⟨[.ag [.d false false .str P, .v false (.int .i64 fu), .v false (.bool de), .v false (.int .i64 ke)], .one (.v false (.int .i64 I)), .one (.v false (.string D))], rfl, fun fr w us h => h, fun r hr => ?_⟩
    obtain ⟨hc, hr⟩ := br_bad hr
    simp only [Tr.val, Option.some.injEq] at hr
    subst hr
    rw [wrb_tree]
    exact wrb_val P fu de ke I D hc
  · cases h
noncomputable def fsC_S59 : Sums := addS 19 wrb_g fsC_S58
theorem fsC_S59_ok : SumOK Try.prog fsC_S59 := addS_ok (wrb_ok) (fsC_S58_ok)
end Go.Proofs.Ytabjagbdaamaaaa
