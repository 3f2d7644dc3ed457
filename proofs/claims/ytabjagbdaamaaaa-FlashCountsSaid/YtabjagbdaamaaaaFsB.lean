/-
  Layer 51: new memories; reading, failing, power.
-/
import Derived.Test.YtabjagbdaamaaaaProg
import Derived.Test.YtabjagbdaamaaaaFvX
import Derived.Test.YtabjagbdaamaaaaFvZ
import Derived.Test.YtabjagbdaamaaaaAut
import Derived.Test.YtabjagbdaamaaaaRd
import Derived.Test.YtabjagbdaamaaaaPl
import Derived.Test.YtabjagbdaamaaaaScn
import Derived.Test.YtabjagbdaamaaaaFsA
import Derived.Test.YtabjagbdaamaaaaFld
import Derived.Test.YtabjagbdaamaaaaRpl
namespace Go.Proofs.Ytabjagbdaamaaaa
open Go
def mulH (a b : Int) : Int := ((a.toNat * b.toNat / 18446744073709551616 : Nat) : Int)
def mulL (a b : Int) : Int := ((a.toNat * b.toNat % 18446744073709551616 : Nat) : Int)
noncomputable def bml_g : List AV → Option (Tr AV)
  | [.one (.v _ (.int .u64 a)), .one (.v _ (.int .u64 b))] => some (.br (decide (0 ≤ a ∧ a ≤ 18446744073709551615 ∧ 0 ≤ b ∧ b ≤ 18446744073709551615)) (.ret (.tup [(false, [.v false (.int .u64 (mulH a b))]), (false, [.v false (.int .u64 (mulL a b))])])) (.bad 900))
  | _ => none
set_option maxHeartbeats 4000000 in
theorem bml_ok : FunOK Try.prog 36 bml_g := by
  refine fun_of_calls fun args t h r hr fr w us hus => ?_
  unfold bml_g at h
  split at h
  · rename_i _ a _ b
    simp only [Option.some.injEq] at h
    subst h
    obtain ⟨hc, hr⟩ := br_bad hr
    simp only [Tr.val, Option.some.injEq] at hr
    subst hr
    obtain ⟨_, _, rfl, e0, _, _, rfl, e1, rfl⟩ := hus
    cases e0; cases e1
    exact ⟨_, by
      have hc := of_decide_eq_true hc
      obtain ⟨a0, a1, b0, b1⟩ := hc
      have c := Try.bits_Mul a.toNat b.toNat (by omega) (by omega) w
      rw [Int.toNat_of_nonneg a0, Int.toNat_of_nonneg b0] at c
      refine c.mono fun e w' h => ?_
      exact ⟨h.1, by rw [h.2]; exact Ext.refl _⟩, fun _ _ => tup2_is, rfl⟩
  · cases h
noncomputable def fsB_S51 : Sums := addS 36 bml_g fsA_S61
theorem fsB_S51_ok : SumOK Try.prog fsB_S51 := addS_ok (bml_ok) (fsA_S61_ok)
abbrev rps_U : Type := Unit
abbrev rps_V : Type := Int × (Ty.list .str).den
noncomputable def rps_St (u : rps_U) (v : rps_V) : Stt := ⟨[.one .junk, .one .junk, .one .junk, .one .junk, .one (.v false (Value.slice none (0 : Nat) (0 : Nat))), .one .junk, .one .junk, .one (.s false 22 0 (none)), .one (.v false (.int .i64 v.1)), .one .junk, .one .junk, .one .junk, .one .junk, .one .junk, .one .junk, .one .junk, .one .junk, .one .junk, .one .junk, .one .junk, .one .junk, .one .junk, .one .junk, .one .junk, .one .junk, .one .junk, .one .junk, .one .junk, .one .junk, .one .junk, .one .junk, .one .junk, .one .junk, .one .junk, .one .junk, .one .junk, .one .junk, .one .junk, .one .junk, .one .junk, .one .junk, .one .junk, .one .junk, .one .junk, .one .junk, .one .junk, .one .junk, .one .junk], [(22, .row true false false 9 .str v.2)], 1028⟩
noncomputable def rps_step (u : rps_U) (v : rps_V) : Tr (rps_V ⊕ (Nat × rps_V)) :=
  match u, v with
  | _, (q0, q1) => .br (decide (q0 < (↑(List.length q1) : Int))) (.br (decide ((0 : Int) ≤ q0) && decide (q0 ≤ (↑(List.length q1) : Int)) && decide ((↑(List.length q1) : Int) ≤ (↑(List.length q1) : Int))) (.br (decide ((0 : Int) ≤ (0 : Int)) && decide ((0 : Int) ≤ q0) && decide (q0 ≤ (↑(List.length q1) : Int))) (.ret (.inl (IntKind.wrap IntKind.i64 (q0 + (↑(min (List.length (cut q1 (newLo none (0 : Nat) (0 : Int)) (newHi (some (Operand.tmp (43 : Nat))) none (0 : Int) q0))) (cutLen q1 (newLo (some (Operand.tmp (40 : Nat))) (0 : Nat) q0) (newHi none none q0 (↑(List.length q1) : Int)))) : Int)), splice q1 (newLo (some (Operand.tmp (40 : Nat))) (0 : Nat) q0) (List.take (min (List.length (cut q1 (newLo none (0 : Nat) (0 : Int)) (newHi (some (Operand.tmp (43 : Nat))) none (0 : Int) q0))) (cutLen q1 (newLo (some (Operand.tmp (40 : Nat))) (0 : Nat) q0) (newHi none none q0 (↑(List.length q1) : Int)))) (cut q1 (newLo none (0 : Nat) (0 : Int)) (newHi (some (Operand.tmp (43 : Nat))) none (0 : Int) q0)))))) (.bad 67)) (.bad 67)) (.ret (.inr (0, (q0, q1))))
set_option maxRecDepth 100000 in
set_option maxHeartbeats 4000000 in
theorem rps_step_eq : ∀ (u : rps_U) (v : rps_V), (evalC Try.prog (evalB Try.prog fsB_S51 (opens []) fsA_L55 7).1 (evalB Try.prog fsB_S51 (opens []) fsA_L55 7).2 (opens []) (fsA_L55 25) 100000 (0 :: [0, 0, 1, 1, 1, 1, 1, 1]) (loopOf (bodyOf Try.prog 25) [1, 1, 1, 1, 1, 1, 0, 0]) (rps_St u v) []).bind (finF [0, 1, 2, 3, 5, 6, 9, 10, 11, 12, 13, 14, 15, 16, 17, 18, 19, 20, 21, 22, 23, 24, 25, 26, 27, 28, 29, 30, 31, 32, 33, 34, 35, 36, 37, 38, 39, 40, 41, 42, 43, 44, 45, 46, 47] [] [22] [] 1028) = (rps_step u v).bind (outA (rps_St u) [.exit 0]) := by
  rintro _ ⟨q0, q1⟩
  kernel_rfl
noncomputable def rps_rd (b : Bool) (o4 : Option AV) (o7 : Option AV) (o8 : Option AV) (own : Own) : Option (rps_U × rps_V) := zrT b <| zrO o4 fun za1 => zrA1 za1 fun zc2 => zrNil zc2 <| zrO o7 fun za3 => zrA1 za3 fun zc4 => zrSl 22 0 (none) zc4 <| zrO o8 fun za5 => zrA1 za5 fun zc6 => zrI .i64 zc6 fun q0 => zrL own fun zq7 zw8 => zrKey 22 zq7 fun zk9 => zrR true 9 .str zk9 fun q1 => zrN zw8 <| some ((), (q0, q1))
noncomputable def rps_can (st : Stt) : Stt := canA [0, 1, 2, 3, 5, 6, 9, 10, 11, 12, 13, 14, 15, 16, 17, 18, 19, 20, 21, 22, 23, 24, 25, 26, 27, 28, 29, 30, 31, 32, 33, 34, 35, 36, 37, 38, 39, 40, 41, 42, 43, 44, 45, 46, 47] [] [22] [] 1028 st
noncomputable def rps_cok (st : Stt) : Bool := canAok [0, 1, 2, 3, 5, 6, 9, 10, 11, 12, 13, 14, 15, 16, 17, 18, 19, 20, 21, 22, 23, 24, 25, 26, 27, 28, 29, 30, 31, 32, 33, 34, 35, 36, 37, 38, 39, 40, 41, 42, 43, 44, 45, 46, 47] [] [22] [] 1028 st
noncomputable def rps_read (st : Stt) : Option (rps_U × rps_V) := rps_rd (rps_cok st && (staysA [] [22] st.own && juAll [0, 1, 2, 3, 5, 6, 9, 10, 11, 12, 13, 14, 15, 16, 17, 18, 19, 20, 21, 22, 23, 24, 25, 26, 27, 28, 29, 30, 31, 32, 33, 34, 35, 36, 37, 38, 39, 40, 41, 42, 43, 44, 45, 46, 47] (rps_can st).tm 48)) (rps_can st).tm[4]? (rps_can st).tm[7]? (rps_can st).tm[8]? (rps_can st).own
set_option maxRecDepth 100000 in
set_option maxHeartbeats 4000000 in
theorem rps_rd_ok {b : Bool} {tm : List AV} {own : Own} {u : rps_U} {v : rps_V} (hj : b = true → juAll [0, 1, 2, 3, 5, 6, 9, 10, 11, 12, 13, 14, 15, 16, 17, 18, 19, 20, 21, 22, 23, 24, 25, 26, 27, 28, 29, 30, 31, 32, 33, 34, 35, 36, 37, 38, 39, 40, 41, 42, 43, 44, 45, 46, 47] tm 48 = true) (h : rps_rd b tm[4]? tm[7]? tm[8]? own = some (u, v)) : b = true ∧ tm = (rps_St u v).tm ∧ own = (rps_St u v).own := by
  unfold rps_rd at h
  obtain ⟨rfl, h0⟩ := zrT_some h
  obtain ⟨za1, e4, h1⟩ := zrO_some h0
  obtain ⟨zc2, rfl, h2⟩ := zrA1_some h1
  obtain ⟨rfl, h3⟩ := zrNil_some h2
  obtain ⟨za3, e7, h4⟩ := zrO_some h3
  obtain ⟨zc4, rfl, h5⟩ := zrA1_some h4
  obtain ⟨rfl, h6⟩ := zrSl_some h5
  obtain ⟨za5, e8, h7⟩ := zrO_some h6
  obtain ⟨zc6, rfl, h8⟩ := zrA1_some h7
  obtain ⟨q0, rfl, h9⟩ := zrI_some h8
  obtain ⟨zq7, zw8, rfl, h10⟩ := zrL_some h9
  obtain ⟨zk9, rfl, h11⟩ := zrKey_some h10
  obtain ⟨q1, rfl, h12⟩ := zrR_some h11
  obtain ⟨rfl, h13⟩ := zrN_some h12
  have h := Option.some.inj h13
  have hu := congrArg Prod.fst h
  have hv := congrArg Prod.snd h
  dsimp only at hu hv
  subst hu
  subst hv
  exact ⟨rfl, (tm_fill (hj rfl) (Lv := [(4, .one (.v false (Value.slice none (0 : Nat) (0 : Nat)))), (7, .one (.s false 22 0 (none))), (8, .one (.v false (.int .i64 q0)))]) (by kernel_rfl) ⟨e4, e7, e8, trivial⟩).trans (by kernel_rfl), rfl⟩
theorem rps_read_ok (st : Stt) (u : rps_U) (v : rps_V) (h : rps_read st = some (u, v)) : rps_cok st = true ∧ staysA [] [22] st.own = true ∧ rps_can st = rps_St u v := by
  obtain ⟨h1, h2, h3⟩ := rps_rd_ok (fun hb => by rw [Bool.and_eq_true, Bool.and_eq_true] at hb; exact hb.2.2) h
  rw [Bool.and_eq_true, Bool.and_eq_true] at h1
  refine ⟨h1.1, h1.2.1, ?_⟩
  have e : rps_can st = ⟨(rps_can st).tm, (rps_can st).own, 1028⟩ := by kernel_rfl
  rw [e, h2, h3]
  rfl
noncomputable def rps_cond (u : rps_U) (v : rps_V) : Bool := runC (rps_step u) v
noncomputable def rps_g (u : rps_U) (v : rps_V) : Nat × rps_V := runG (rps_step u) v
theorem rps_hg : ∀ (u : rps_U) (v : rps_V), rps_cond u v = true → loopN (rps_step u) ((fun u v => runF (rps_step u) v) u v) v = some (rps_g u v) := by
  exact fun u v h => run_hg h
noncomputable def rps_m (st : Stt) : Option (Tr (Ex × Stt)) := sumM rps_read rps_cond rps_St rps_g [(0, .exit 0)] st
noncomputable def fsB_L52 : FuncId → Loops := addL 25 [0, 0, 1, 1, 1, 1, 1, 1] rps_m fsA_L55
set_option maxRecDepth 100000 in
set_option maxHeartbeats 4000000 in
theorem fsB_L52_ok : LoopsOK Try.prog fsB_L52 :=
  loop_sumF (body := (bodyOf Try.prog 25)) (c := (loopOf (bodyOf Try.prog 25) [1, 1, 1, 1, 1, 1, 0, 0])) (kinds := [.exit 0]) (allow := [(0, .exit 0)]) (St := rps_St) (step := rps_step) (W := [0, 1, 2, 3, 5, 6, 9, 10, 11, 12, 13, 14, 15, 16, 17, 18, 19, 20, 21, 22, 23, 24, 25, 26, 27, 28, 29, 30, 31, 32, 33, 34, 35, 36, 37, 38, 39, 40, 41, 42, 43, 44, 45, 46, 47]) (As := []) (ks := [22]) (dd := []) (nx := 1028) (n := 100000) (g := rps_g) (cond := rps_cond) (fuel := (fun u v => runF (rps_step u) v)) (read := rps_read) (by kernel_rfl) (fsB_S51_ok) (fsA_L55_ok) 7 ⟨Try.f25, by kernel_rfl, by kernel_rfl⟩ (by kernel_rfl) (by kernel_rfl) (by kernel_rfl) rps_step_eq rps_hg rps_read_ok
theorem rps_run (z : ByteArray) (N : Nat) (h1 : 1 ≤ N) (h2 : N ≤ 4096) : rps_cond () (1, List.replicate 1 z ++ List.replicate (N - 1) ⟨#[]⟩) = true ∧ rps_g () (1, List.replicate 1 z ++ List.replicate (N - 1) ⟨#[]⟩) = (0, ((N : Int), List.replicate N z)) := by
  refine run_val (step := rps_step ()) (Inv := fun v => ∃ c : Nat, 1 ≤ c ∧ c ≤ N ∧ v = ((c : Int), List.replicate c z ++ List.replicate (N - c) (⟨#[]⟩ : ByteArray))) (μ := fun v => N - v.1.toNat) (Q := fun r => r = (0, ((N : Int), List.replicate N z))) ?_ _ _ (Nat.lt_succ_self _) ⟨1, Nat.le_refl _, h1, rfl⟩
  rintro v ⟨c, c1, c2, rfl⟩
  have hl : (List.replicate c z ++ List.replicate (N - c) (⟨#[]⟩ : ByteArray)).length = N := by simp; omega
  by_cases hc : c < N
  · have e1 : decide ((c : Int) < (N : Int)) = true := decide_eq_true (by omega)
    have e2 : decide ((c : Int) ≤ (N : Int)) = true := decide_eq_true (by omega)
    refine ⟨.inl (((c + min c (N - c) : Nat) : Int), List.replicate (c + min c (N - c)) z ++ List.replicate (N - (c + min c (N - c))) ⟨#[]⟩), ?_, ⟨c + min c (N - c), by omega, by omega, rfl⟩, ?_⟩
    · have e3 : cut (List.replicate c z ++ List.replicate (N - c) (⟨#[]⟩ : ByteArray)) 0 (some c) = List.replicate c z := by simp [cut]
      have w1 : IntKind.wrap IntKind.i64 ((c : Int) + ((min c (N - c) : Nat) : Int)) = ((c + min c (N - c) : Nat) : Int) := by rw [wid (by omega) (by omega)]; push_cast; rfl
      simp only [rps_step, hl, e1, e2, nn_t, Tr.val, cond_true, Bool.and_self, Int.le_refl, decide_true, newLo, newHi, Int.sub_zero, Int.toNat_natCast, Nat.zero_add, e3, cutLen_none, List.length_replicate, List.take_replicate, Nat.min_assoc, Nat.min_self, w1]
      have mm : min c (min (N - c) c) = min c (N - c) := by omega
      rw [mm, rep_grow]
    · show N - ((c + min c (N - c) : Nat) : Int).toNat < N - ((c : Nat) : Int).toNat
      omega
  · have : c = N := by omega
    subst this
    refine ⟨.inr (0, ((c : Int), List.replicate c z)), ?_, rfl⟩
    simp [rps_step, Tr.val]
theorem one_of {L : List ByteArray} (h : L.length = 1) : L = [el_s L 0] := by
  have h0 : (0 : Nat) < L.length := by omega
  have := el_s_lt (l := L) (i := 0) h0
  rw [show ((0 : Nat) : Int) = 0 from rfl] at this
  rw [this]
  match L, h with
  | [x], _ => rfl
def repS (L : List ByteArray) (n : Int) : List ByteArray := List.replicate n.toNat (el_s L 0)
set_option maxRecDepth 100000 in
theorem rpc_tree (L : (Ty.list .str).den) (n : Int) : evalF Try.prog fsB_S51 (opens []) fsB_L52 9 25 [.one (.d false false .str L), .one (.v false (.int .i64 n))] = .br ((!(decide (n < (0 : Int))) && ((decide ((0 : Int) ≤ IntKind.wrap IntKind.u64 (↑(List.length L) : Int) ∧ IntKind.wrap IntKind.u64 (↑(List.length L) : Int) ≤ (18446744073709551615 : Int) ∧ (0 : Int) ≤ IntKind.wrap IntKind.u64 n ∧ IntKind.wrap IntKind.u64 n ≤ (18446744073709551615 : Int))) && (!(bif decide (mulH (IntKind.wrap IntKind.u64 (↑(List.length L) : Int)) (IntKind.wrap IntKind.u64 n) > (0 : Int)) then true else decide (mulL (IntKind.wrap IntKind.u64 (↑(List.length L) : Int)) (IntKind.wrap IntKind.u64 n) > (9223372036854775807 : Int))) && ((decide ((0 : Int) ≤ IntKind.wrap IntKind.i64 (mulL (IntKind.wrap IntKind.u64 (↑(List.length L) : Int)) (IntKind.wrap IntKind.u64 n))) && decide (IntKind.wrap IntKind.i64 (mulL (IntKind.wrap IntKind.u64 (↑(List.length L) : Int)) (IntKind.wrap IntKind.u64 n)) ≤ IntKind.wrap IntKind.i64 (mulL (IntKind.wrap IntKind.u64 (↑(List.length L) : Int)) (IntKind.wrap IntKind.u64 n))) && decide ((↑(16 : Nat) : Int) * IntKind.wrap IntKind.i64 (mulL (IntKind.wrap IntKind.u64 (↑(List.length L) : Int)) (IntKind.wrap IntKind.u64 n)) ≤ (281474976710656 : Int)) && decide (IntKind.wrap IntKind.i64 (mulL (IntKind.wrap IntKind.u64 (↑(List.length L) : Int)) (IntKind.wrap IntKind.u64 n)) ≤ (9223372036854775807 : Int))) && ((rps_cond () ((↑(min (List.length L) (List.length (List.replicate (Int.toNat (IntKind.wrap IntKind.i64 (mulL (IntKind.wrap IntKind.u64 (↑(List.length L) : Int)) (IntKind.wrap IntKind.u64 n)))) (ByteArray.mk #[])))) : Int), splice (List.replicate (Int.toNat (IntKind.wrap IntKind.i64 (mulL (IntKind.wrap IntKind.u64 (↑(List.length L) : Int)) (IntKind.wrap IntKind.u64 n)))) (ByteArray.mk #[])) (0 : Nat) (List.take (min (List.length L) (List.length (List.replicate (Int.toNat (IntKind.wrap IntKind.i64 (mulL (IntKind.wrap IntKind.u64 (↑(List.length L) : Int)) (IntKind.wrap IntKind.u64 n)))) (ByteArray.mk #[])))) L))) && (Nat.beq (Prod.fst (rps_g () ((↑(min (List.length L) (List.length (List.replicate (Int.toNat (IntKind.wrap IntKind.i64 (mulL (IntKind.wrap IntKind.u64 (↑(List.length L) : Int)) (IntKind.wrap IntKind.u64 n)))) (ByteArray.mk #[])))) : Int), splice (List.replicate (Int.toNat (IntKind.wrap IntKind.i64 (mulL (IntKind.wrap IntKind.u64 (↑(List.length L) : Int)) (IntKind.wrap IntKind.u64 n)))) (ByteArray.mk #[])) (0 : Nat) (List.take (min (List.length L) (List.length (List.replicate (Int.toNat (IntKind.wrap IntKind.i64 (mulL (IntKind.wrap IntKind.u64 (↑(List.length L) : Int)) (IntKind.wrap IntKind.u64 n)))) (ByteArray.mk #[])))) L)))) (0 : Nat)))))))) (.ret (.one (.d false false .str (Prod.snd (Prod.snd (rps_g () ((↑(min (List.length L) (List.length (List.replicate (Int.toNat (IntKind.wrap IntKind.i64 (mulL (IntKind.wrap IntKind.u64 (↑(List.length L) : Int)) (IntKind.wrap IntKind.u64 n)))) (ByteArray.mk #[])))) : Int), splice (List.replicate (Int.toNat (IntKind.wrap IntKind.i64 (mulL (IntKind.wrap IntKind.u64 (↑(List.length L) : Int)) (IntKind.wrap IntKind.u64 n)))) (ByteArray.mk #[])) (0 : Nat) (List.take (min (List.length L) (List.length (List.replicate (Int.toNat (IntKind.wrap IntKind.i64 (mulL (IntKind.wrap IntKind.u64 (↑(List.length L) : Int)) (IntKind.wrap IntKind.u64 n)))) (ByteArray.mk #[])))) L)))))))) (.bad 116) := by kernel_rfl
theorem rpc_val (L : (Ty.list .str).den) (n : Int) (hc : (decide (L.length = 1 ∧ 1 ≤ n ∧ n ≤ 4096)) = true) : (.br ((!(decide (n < (0 : Int))) && ((decide ((0 : Int) ≤ IntKind.wrap IntKind.u64 (↑(List.length L) : Int) ∧ IntKind.wrap IntKind.u64 (↑(List.length L) : Int) ≤ (18446744073709551615 : Int) ∧ (0 : Int) ≤ IntKind.wrap IntKind.u64 n ∧ IntKind.wrap IntKind.u64 n ≤ (18446744073709551615 : Int))) && (!(bif decide (mulH (IntKind.wrap IntKind.u64 (↑(List.length L) : Int)) (IntKind.wrap IntKind.u64 n) > (0 : Int)) then true else decide (mulL (IntKind.wrap IntKind.u64 (↑(List.length L) : Int)) (IntKind.wrap IntKind.u64 n) > (9223372036854775807 : Int))) && ((decide ((0 : Int) ≤ IntKind.wrap IntKind.i64 (mulL (IntKind.wrap IntKind.u64 (↑(List.length L) : Int)) (IntKind.wrap IntKind.u64 n))) && decide (IntKind.wrap IntKind.i64 (mulL (IntKind.wrap IntKind.u64 (↑(List.length L) : Int)) (IntKind.wrap IntKind.u64 n)) ≤ IntKind.wrap IntKind.i64 (mulL (IntKind.wrap IntKind.u64 (↑(List.length L) : Int)) (IntKind.wrap IntKind.u64 n))) && decide ((↑(16 : Nat) : Int) * IntKind.wrap IntKind.i64 (mulL (IntKind.wrap IntKind.u64 (↑(List.length L) : Int)) (IntKind.wrap IntKind.u64 n)) ≤ (281474976710656 : Int)) && decide (IntKind.wrap IntKind.i64 (mulL (IntKind.wrap IntKind.u64 (↑(List.length L) : Int)) (IntKind.wrap IntKind.u64 n)) ≤ (9223372036854775807 : Int))) && ((rps_cond () ((↑(min (List.length L) (List.length (List.replicate (Int.toNat (IntKind.wrap IntKind.i64 (mulL (IntKind.wrap IntKind.u64 (↑(List.length L) : Int)) (IntKind.wrap IntKind.u64 n)))) (ByteArray.mk #[])))) : Int), splice (List.replicate (Int.toNat (IntKind.wrap IntKind.i64 (mulL (IntKind.wrap IntKind.u64 (↑(List.length L) : Int)) (IntKind.wrap IntKind.u64 n)))) (ByteArray.mk #[])) (0 : Nat) (List.take (min (List.length L) (List.length (List.replicate (Int.toNat (IntKind.wrap IntKind.i64 (mulL (IntKind.wrap IntKind.u64 (↑(List.length L) : Int)) (IntKind.wrap IntKind.u64 n)))) (ByteArray.mk #[])))) L))) && (Nat.beq (Prod.fst (rps_g () ((↑(min (List.length L) (List.length (List.replicate (Int.toNat (IntKind.wrap IntKind.i64 (mulL (IntKind.wrap IntKind.u64 (↑(List.length L) : Int)) (IntKind.wrap IntKind.u64 n)))) (ByteArray.mk #[])))) : Int), splice (List.replicate (Int.toNat (IntKind.wrap IntKind.i64 (mulL (IntKind.wrap IntKind.u64 (↑(List.length L) : Int)) (IntKind.wrap IntKind.u64 n)))) (ByteArray.mk #[])) (0 : Nat) (List.take (min (List.length L) (List.length (List.replicate (Int.toNat (IntKind.wrap IntKind.i64 (mulL (IntKind.wrap IntKind.u64 (↑(List.length L) : Int)) (IntKind.wrap IntKind.u64 n)))) (ByteArray.mk #[])))) L)))) (0 : Nat)))))))) (.ret (.one (.d false false .str (Prod.snd (Prod.snd (rps_g () ((↑(min (List.length L) (List.length (List.replicate (Int.toNat (IntKind.wrap IntKind.i64 (mulL (IntKind.wrap IntKind.u64 (↑(List.length L) : Int)) (IntKind.wrap IntKind.u64 n)))) (ByteArray.mk #[])))) : Int), splice (List.replicate (Int.toNat (IntKind.wrap IntKind.i64 (mulL (IntKind.wrap IntKind.u64 (↑(List.length L) : Int)) (IntKind.wrap IntKind.u64 n)))) (ByteArray.mk #[])) (0 : Nat) (List.take (min (List.length L) (List.length (List.replicate (Int.toNat (IntKind.wrap IntKind.i64 (mulL (IntKind.wrap IntKind.u64 (↑(List.length L) : Int)) (IntKind.wrap IntKind.u64 n)))) (ByteArray.mk #[])))) L)))))))) (.bad 116) : Tr AV).val = some (.one (.d false false .str (repS L n))) := by
  have hc := of_decide_eq_true hc
  obtain ⟨hl, n1, n2⟩ := hc
  obtain ⟨N, rfl⟩ : ∃ N : Nat, n = N := ⟨n.toNat, by omega⟩
  have hL := one_of hl
  have u1 : IntKind.wrap IntKind.u64 ((1 : Nat) : Int) = 1 := by decide
  have u2 : IntKind.wrap IntKind.u64 (N : Int) = (N : Int) := IntWalk.u64_in _ ⟨by omega, by omega⟩
  have hH : mulH 1 (N : Int) = 0 := by
    unfold mulH
    rw [show (1 : Int).toNat = 1 from rfl, Int.toNat_natCast, Nat.one_mul, Nat.div_eq_of_lt (by omega)]; rfl
  have hLo : mulL 1 (N : Int) = (N : Int) := by
    unfold mulL
    rw [show (1 : Int).toNat = 1 from rfl, Int.toNat_natCast, Nat.one_mul, Nat.mod_eq_of_lt (by omega)]
  have w1 : IntKind.wrap IntKind.i64 (N : Int) = (N : Int) := wid (by omega) (by omega)
  have m1 : min 1 N = 1 := by omega
  have e1 : decide ((N : Int) < 0) = false := decide_eq_false (by omega)
  have e2 : decide ((N : Int) > 9223372036854775807) = false := decide_eq_false (by omega)
  have e3 : decide (((16 : Nat) : Int) * (N : Int) ≤ 281474976710656) = true := decide_eq_true (by omega)
  have e4 : decide ((N : Int) ≤ 9223372036854775807) = true := decide_eq_true (by omega)
  have e0 : decide ((0 : Int) > (0 : Int)) = false := by decide
  have e5 : decide ((0 : Int) ≤ 1 ∧ (1 : Int) ≤ 18446744073709551615 ∧ 0 ≤ (N : Int) ∧ (N : Int) ≤ 18446744073709551615) = true := decide_eq_true (by omega)
  obtain ⟨v1, v2⟩ := rps_run (el_s L 0) N (by omega) (by omega)
  have sp : splice (List.replicate N (⟨#[]⟩ : ByteArray)) 0 (List.take 1 L) = List.replicate 1 (el_s L 0) ++ List.replicate (N - 1) ⟨#[]⟩ := by
    have := rep_grow (el_s L 0) (⟨#[]⟩ : ByteArray) 0 1 N
    simp only [Nat.zero_add, Nat.sub_zero, List.replicate_zero, List.nil_append] at this
    rw [hL, List.take_of_length_le (by simp), show [el_s L 0] = List.replicate 1 (el_s L 0) from rfl]
    exact this
  show cond _ _ _ = _
  simp only [hl, u1, u2, hH, hLo, w1, List.length_replicate, Int.toNat_natCast, m1, e1, e2, e3, e4, e0, nn_t, Int.le_refl, decide_true, cond_false, Bool.not_false, Bool.and_self, Bool.true_and, sp]
  have v1' : rps_cond () (((1 : Nat) : Int), List.replicate 1 (el_s L 0) ++ List.replicate (N - 1) ⟨#[]⟩) = true := v1
  have v2' : rps_g () (((1 : Nat) : Int), List.replicate 1 (el_s L 0) ++ List.replicate (N - 1) ⟨#[]⟩) = (0, ((N : Int), List.replicate N (el_s L 0))) := v2
  simp only [v1', v2', e5, Nat.beq, Bool.and_self, cond_true, Tr.val]
  unfold repS
  rw [Int.toNat_natCast]
noncomputable def rpc_g : List AV → Option (Tr AV)
  | [.one (.d _ _ .str L), .one (.v _ (.int .i64 n))] => some (.br (decide (L.length = 1 ∧ 1 ≤ n ∧ n ≤ 4096)) (.ret (.one (.d false false .str (repS L n)))) (.bad 900))
  | _ => none
set_option maxHeartbeats 4000000 in
theorem rpc_ok : FunOK Try.prog 25 rpc_g := by
  refine fun_ok (by kernel_rfl) (fsB_S51_ok) (fsB_L52_ok) 9 (On := (opens [])) (fun args t h => ?_)
  unfold rpc_g at h
  split at h
  · rename_i _ _ L _ n
    simp only [Option.some.injEq] at h
    subst h
    refine ⟨[.one (.d false false .str L), .one (.v false (.int .i64 n))], rfl, fun fr w us h => h, fun r hr => ?_⟩
    obtain ⟨hc, hr⟩ := br_bad hr
    simp only [Tr.val, Option.some.injEq] at hr
    subst hr
    rw [rpc_tree]
    exact rpc_val L n hc
  · cases h
noncomputable def fsB_S53 : Sums := addS 25 rpc_g fsB_S51
theorem fsB_S53_ok : SumOK Try.prog fsB_S53 := addS_ok (rpc_ok) (fsB_S51_ok)
abbrev rnw_U : Type := Int × Int × Int × Bool × Int × Int × Bool × Int
abbrev rnw_V : Type := Int × (Ty.list .str).den
noncomputable def rnw_St (u : rnw_U) (v : rnw_V) : Stt := ⟨[.one (.v false (.int .i64 u.1)), .one .junk, .one (.p 0 0), .one (.v false (.int .i64 u.2.1)), .one (.p 8 0), .one (.v false (.int .i64 v.1)), .one .junk, .one .junk, .one .junk, .one .junk, .one .junk, .one .junk, .one .junk, .one .junk, .one .junk, .one .junk, .one .junk, .one .junk, .one .junk, .one .junk, .one .junk, .one .junk, .one .junk, .one .junk, .one .junk], [(8, .cells [.s false 980 0 (none), .v false (.int .i64 u.2.2.1), .v false (.bool u.2.2.2.1), .v false (.int .i64 u.2.2.2.2.1)]), (0, .cells [.v false (Value.slice none (0 : Nat) (0 : Nat)), .v false (.int .i64 u.2.2.2.2.2.1), .v false (.bool u.2.2.2.2.2.2.1), .v false (.int .i64 u.2.2.2.2.2.2.2)]), (980, .row true false false 9 .str v.2)], 1010⟩
noncomputable def rnw_step (u : rnw_U) (v : rnw_V) : Tr (rnw_V ⊕ (Nat × rnw_V)) :=
  match u, v with
  | (q0, _, _, _, _, _, _, _), (q2, q9) => .br (decide (q2 < q0)) (.br (decide ((List.length q9 + (1 : Nat)) * (16 : Nat) ≤ maxNew) && decide (List.length q9 + (1 : Nat) ≤ maxLen)) (.ret (.inl (IntKind.wrap IntKind.i64 (q2 + (1 : Int)), q9 ++ [ofInts (List.replicate (Int.toNat (64 : Int)) (0 : Int))]))) (.bad 71)) (.ret (.inr (0, (q2, q9))))
set_option maxRecDepth 100000 in
set_option maxHeartbeats 4000000 in
theorem rnw_step_eq : ∀ (u : rnw_U) (v : rnw_V), (evalC Try.prog (evalB Try.prog fsB_S53 (opens []) fsB_L52 7).1 (evalB Try.prog fsB_S53 (opens []) fsB_L52 7).2 (opens []) (fsB_L52 10) 100000 (0 :: [0, 1, 0, 1, 1, 1]) (loopOf (bodyOf Try.prog 10) [1, 1, 1, 0, 1, 0]) (rnw_St u v) []).bind (finF [1, 6, 7, 8, 9, 10, 11, 12, 13, 14, 15, 16, 17, 18, 19, 20, 21, 22, 23, 24] [⟨980, none, 8, 0, 9, .str⟩] [8, 0, 980] [1017] 1010) = (rnw_step u v).bind (outA (rnw_St u) [.exit 0]) := by
  rintro ⟨q0, q1, q3, q4, q5, q6, q7, q8⟩ ⟨q2, q9⟩
  kernel_rfl
noncomputable def rnw_rd (b : Bool) (o0 : Option AV) (o2 : Option AV) (o3 : Option AV) (o4 : Option AV) (o5 : Option AV) (own : Own) : Option (rnw_U × rnw_V) := zrT b <| zrO o0 fun za1 => zrA1 za1 fun zc2 => zrI .i64 zc2 fun q0 => zrO o2 fun za3 => zrA1 za3 fun zc4 => zrP 0 0 zc4 <| zrO o3 fun za5 => zrA1 za5 fun zc6 => zrI .i64 zc6 fun q1 => zrO o4 fun za7 => zrA1 za7 fun zc8 => zrP 8 0 zc8 <| zrO o5 fun za9 => zrA1 za9 fun zc10 => zrI .i64 zc10 fun q2 => zrL own fun zq11 zw12 => zrKey 8 zq11 fun zk13 => zrC zk13 fun zl14 => zrL zl14 fun zc15 zr16 => zrSl 980 0 (none) zc15 <| zrL zr16 fun zc17 zr18 => zrI .i64 zc17 fun q3 => zrL zr18 fun zc19 zr20 => zrB zc19 fun q4 => zrL zr20 fun zc21 zr22 => zrI .i64 zc21 fun q5 => zrN zr22 <| zrL zw12 fun zq23 zw24 => zrKey 0 zq23 fun zk25 => zrC zk25 fun zl26 => zrL zl26 fun zc27 zr28 => zrNil zc27 <| zrL zr28 fun zc29 zr30 => zrI .i64 zc29 fun q6 => zrL zr30 fun zc31 zr32 => zrB zc31 fun q7 => zrL zr32 fun zc33 zr34 => zrI .i64 zc33 fun q8 => zrN zr34 <| zrL zw24 fun zq35 zw36 => zrKey 980 zq35 fun zk37 => zrR true 9 .str zk37 fun q9 => zrN zw36 <| some ((q0, q1, q3, q4, q5, q6, q7, q8), (q2, q9))
noncomputable def rnw_can (st : Stt) : Stt := canA [1, 6, 7, 8, 9, 10, 11, 12, 13, 14, 15, 16, 17, 18, 19, 20, 21, 22, 23, 24] [⟨980, none, 8, 0, 9, .str⟩] [8, 0, 980] [1017] 1010 st
noncomputable def rnw_cok (st : Stt) : Bool := canAok [1, 6, 7, 8, 9, 10, 11, 12, 13, 14, 15, 16, 17, 18, 19, 20, 21, 22, 23, 24] [⟨980, none, 8, 0, 9, .str⟩] [8, 0, 980] [1017] 1010 st
noncomputable def rnw_read (st : Stt) : Option (rnw_U × rnw_V) := rnw_rd (rnw_cok st && (staysA [⟨980, none, 8, 0, 9, .str⟩] [8, 0, 980] st.own && juAll [1, 6, 7, 8, 9, 10, 11, 12, 13, 14, 15, 16, 17, 18, 19, 20, 21, 22, 23, 24] (rnw_can st).tm 25)) (rnw_can st).tm[0]? (rnw_can st).tm[2]? (rnw_can st).tm[3]? (rnw_can st).tm[4]? (rnw_can st).tm[5]? (rnw_can st).own
set_option maxRecDepth 100000 in
set_option maxHeartbeats 4000000 in
theorem rnw_rd_ok {b : Bool} {tm : List AV} {own : Own} {u : rnw_U} {v : rnw_V} (hj : b = true → juAll [1, 6, 7, 8, 9, 10, 11, 12, 13, 14, 15, 16, 17, 18, 19, 20, 21, 22, 23, 24] tm 25 = true) (h : rnw_rd b tm[0]? tm[2]? tm[3]? tm[4]? tm[5]? own = some (u, v)) : b = true ∧ tm = (rnw_St u v).tm ∧ own = (rnw_St u v).own := by
  unfold rnw_rd at h
  obtain ⟨rfl, h0⟩ := zrT_some h
  obtain ⟨za1, e0, h1⟩ := zrO_some h0
  obtain ⟨zc2, rfl, h2⟩ := zrA1_some h1
  obtain ⟨q0, rfl, h3⟩ := zrI_some h2
  obtain ⟨za3, e2, h4⟩ := zrO_some h3
  obtain ⟨zc4, rfl, h5⟩ := zrA1_some h4
  obtain ⟨rfl, h6⟩ := zrP_some h5
  obtain ⟨za5, e3, h7⟩ := zrO_some h6
  obtain ⟨zc6, rfl, h8⟩ := zrA1_some h7
  obtain ⟨q1, rfl, h9⟩ := zrI_some h8
  obtain ⟨za7, e4, h10⟩ := zrO_some h9
  obtain ⟨zc8, rfl, h11⟩ := zrA1_some h10
  obtain ⟨rfl, h12⟩ := zrP_some h11
  obtain ⟨za9, e5, h13⟩ := zrO_some h12
  obtain ⟨zc10, rfl, h14⟩ := zrA1_some h13
  obtain ⟨q2, rfl, h15⟩ := zrI_some h14
  obtain ⟨zq11, zw12, rfl, h16⟩ := zrL_some h15
  obtain ⟨zk13, rfl, h17⟩ := zrKey_some h16
  obtain ⟨zl14, rfl, h18⟩ := zrC_some h17
  obtain ⟨zc15, zr16, rfl, h19⟩ := zrL_some h18
  obtain ⟨rfl, h20⟩ := zrSl_some h19
  obtain ⟨zc17, zr18, rfl, h21⟩ := zrL_some h20
  obtain ⟨q3, rfl, h22⟩ := zrI_some h21
  obtain ⟨zc19, zr20, rfl, h23⟩ := zrL_some h22
  obtain ⟨q4, rfl, h24⟩ := zrB_some h23
  obtain ⟨zc21, zr22, rfl, h25⟩ := zrL_some h24
  obtain ⟨q5, rfl, h26⟩ := zrI_some h25
  obtain ⟨rfl, h27⟩ := zrN_some h26
  obtain ⟨zq23, zw24, rfl, h28⟩ := zrL_some h27
  obtain ⟨zk25, rfl, h29⟩ := zrKey_some h28
  obtain ⟨zl26, rfl, h30⟩ := zrC_some h29
  obtain ⟨zc27, zr28, rfl, h31⟩ := zrL_some h30
  obtain ⟨rfl, h32⟩ := zrNil_some h31
  obtain ⟨zc29, zr30, rfl, h33⟩ := zrL_some h32
  obtain ⟨q6, rfl, h34⟩ := zrI_some h33
  obtain ⟨zc31, zr32, rfl, h35⟩ := zrL_some h34
  obtain ⟨q7, rfl, h36⟩ := zrB_some h35
  obtain ⟨zc33, zr34, rfl, h37⟩ := zrL_some h36
  obtain ⟨q8, rfl, h38⟩ := zrI_some h37
  obtain ⟨rfl, h39⟩ := zrN_some h38
  obtain ⟨zq35, zw36, rfl, h40⟩ := zrL_some h39
  obtain ⟨zk37, rfl, h41⟩ := zrKey_some h40
  obtain ⟨q9, rfl, h42⟩ := zrR_some h41
  obtain ⟨rfl, h43⟩ := zrN_some h42
  have h := Option.some.inj h43
  have hu := congrArg Prod.fst h
  have hv := congrArg Prod.snd h
  dsimp only at hu hv
  subst hu
  subst hv
  exact ⟨rfl, (tm_fill (hj rfl) (Lv := [(0, .one (.v false (.int .i64 q0))), (2, .one (.p 0 0)), (3, .one (.v false (.int .i64 q1))), (4, .one (.p 8 0)), (5, .one (.v false (.int .i64 q2)))]) (by kernel_rfl) ⟨e0, e2, e3, e4, e5, trivial⟩).trans (by kernel_rfl), rfl⟩
theorem rnw_read_ok (st : Stt) (u : rnw_U) (v : rnw_V) (h : rnw_read st = some (u, v)) : rnw_cok st = true ∧ staysA [⟨980, none, 8, 0, 9, .str⟩] [8, 0, 980] st.own = true ∧ rnw_can st = rnw_St u v := by
  obtain ⟨h1, h2, h3⟩ := rnw_rd_ok (fun hb => by rw [Bool.and_eq_true, Bool.and_eq_true] at hb; exact hb.2.2) h
  rw [Bool.and_eq_true, Bool.and_eq_true] at h1
  refine ⟨h1.1, h1.2.1, ?_⟩
  have e : rnw_can st = ⟨(rnw_can st).tm, (rnw_can st).own, 1010⟩ := by kernel_rfl
  rw [e, h2, h3]
  rfl
noncomputable def rnw_cond (u : rnw_U) (v : rnw_V) : Bool := runC (rnw_step u) v
noncomputable def rnw_g (u : rnw_U) (v : rnw_V) : Nat × rnw_V := runG (rnw_step u) v
theorem rnw_hg : ∀ (u : rnw_U) (v : rnw_V), rnw_cond u v = true → loopN (rnw_step u) ((fun u v => runF (rnw_step u) v) u v) v = some (rnw_g u v) := by
  exact fun u v h => run_hg h
noncomputable def rnw_m (st : Stt) : Option (Tr (Ex × Stt)) := sumM rnw_read rnw_cond rnw_St rnw_g [(0, .exit 0)] st
noncomputable def fsB_L54 : FuncId → Loops := addL 10 [0, 1, 0, 1, 1, 1] rnw_m fsB_L52
set_option maxRecDepth 100000 in
set_option maxHeartbeats 4000000 in
theorem fsB_L54_ok : LoopsOK Try.prog fsB_L54 :=
  loop_sumF (body := (bodyOf Try.prog 10)) (c := (loopOf (bodyOf Try.prog 10) [1, 1, 1, 0, 1, 0])) (kinds := [.exit 0]) (allow := [(0, .exit 0)]) (St := rnw_St) (step := rnw_step) (W := [1, 6, 7, 8, 9, 10, 11, 12, 13, 14, 15, 16, 17, 18, 19, 20, 21, 22, 23, 24]) (As := [⟨980, none, 8, 0, 9, .str⟩]) (ks := [8, 0, 980]) (dd := [1017]) (nx := 1010) (n := 100000) (g := rnw_g) (cond := rnw_cond) (fuel := (fun u v => runF (rnw_step u) v)) (read := rnw_read) (by kernel_rfl) (fsB_S53_ok) (fsB_L52_ok) 7 ⟨Try.f10, by kernel_rfl, by kernel_rfl⟩ (by kernel_rfl) (by kernel_rfl) (by kernel_rfl) rnw_step_eq rnw_hg rnw_read_ok
def nwO (n : Int) : Bool := decide (2 ≤ n ∧ n ≤ 256)
def nwP (n : Int) : List ByteArray := bif nwO n then List.replicate n.toNat zpS else []
def nwE (n : Int) : Int := bif nwO n then 0 else 1
theorem nw_bad (n : Int) : (bif decide (n < (2 : Int)) then true else decide (n > (256 : Int))) = !nwO n := by
  unfold nwO
  rw [Bool.eq_iff_iff]
  simp [Bool.cond_eq_ite]
theorem rnw_run (N : Nat) (h2 : N ≤ 4096) : rnw_cond ((N : Int), 0, 0, false, 0, 0, false, 0) (0, []) = true ∧ rnw_g ((N : Int), 0, 0, false, 0, 0, false, 0) (0, []) = (0, ((N : Int), List.replicate N zpS)) := by
  have R := run_steps (step := rnw_step ((N : Int), 0, 0, false, 0, 0, false, 0)) (St := fun j => ((j : Int), List.replicate j zpS)) (n := N) (t := (0, ((N : Int), List.replicate N zpS))) (by
    simp only [rnw_step, Tr.val, Int.lt_irrefl, decide_false, cond_false]) N 0 (by omega) (fun j _ hj => by
    obtain ⟨r1, r2⟩ := room16 (n := j + 1) (by omega)
    have w1 : IntKind.wrap IntKind.i64 ((j : Int) + (1 : Int)) = ((j + 1 : Nat) : Int) := by rw [wid (by omega) (by omega)]; push_cast; rfl
    simp only [rnw_step, Tr.val, lt_t hj, List.length_replicate, r1, r2, w1, Bool.and_self, cond_true]
    rw [List.replicate_succ' (n := j)]
    rfl)
  exact R
set_option maxRecDepth 100000 in
theorem rnc_tree (n : Int) : evalF Try.prog fsB_S53 (opens []) fsB_L54 9 10 [.one (.v false (.int .i64 n))] = .br ((bif bif decide (n < (2 : Int)) then true else decide (n > (256 : Int)) then true else ((rnw_cond (n, (0 : Int), (0 : Int), false, (0 : Int), (0 : Int), false, (0 : Int)) ((0 : Int), [])) && (Nat.beq (Prod.fst (rnw_g (n, (0 : Int), (0 : Int), false, (0 : Int), (0 : Int), false, (0 : Int)) ((0 : Int), []))) (0 : Nat))))) (.ret (.tup [(true, [.d false false .str (bif bif decide (n < (2 : Int)) then true else decide (n > (256 : Int)) then [] else Prod.snd (Prod.snd (rnw_g (n, (0 : Int), (0 : Int), false, (0 : Int), (0 : Int), false, (0 : Int)) ((0 : Int), [])))), .v false (.int .i64 (bif bif decide (n < (2 : Int)) then true else decide (n > (256 : Int)) then (0 : Int) else (0 : Int))), .v false (.bool (bif bif decide (n < (2 : Int)) then true else decide (n > (256 : Int)) then false else false)), .v false (.int .i64 (bif bif decide (n < (2 : Int)) then true else decide (n > (256 : Int)) then (0 : Int) else (0 : Int)))]), (false, [.v false (.int .i64 (bif bif decide (n < (2 : Int)) then true else decide (n > (256 : Int)) then (1 : Int) else (0 : Int)))])])) (.bad 116) := by kernel_rfl
set_option maxHeartbeats 4000000 in
theorem rnc_val (n : Int) : (.br ((bif bif decide (n < (2 : Int)) then true else decide (n > (256 : Int)) then true else ((rnw_cond (n, (0 : Int), (0 : Int), false, (0 : Int), (0 : Int), false, (0 : Int)) ((0 : Int), [])) && (Nat.beq (Prod.fst (rnw_g (n, (0 : Int), (0 : Int), false, (0 : Int), (0 : Int), false, (0 : Int)) ((0 : Int), []))) (0 : Nat))))) (.ret (.tup [(true, [.d false false .str (bif bif decide (n < (2 : Int)) then true else decide (n > (256 : Int)) then [] else Prod.snd (Prod.snd (rnw_g (n, (0 : Int), (0 : Int), false, (0 : Int), (0 : Int), false, (0 : Int)) ((0 : Int), [])))), .v false (.int .i64 (bif bif decide (n < (2 : Int)) then true else decide (n > (256 : Int)) then (0 : Int) else (0 : Int))), .v false (.bool (bif bif decide (n < (2 : Int)) then true else decide (n > (256 : Int)) then false else false)), .v false (.int .i64 (bif bif decide (n < (2 : Int)) then true else decide (n > (256 : Int)) then (0 : Int) else (0 : Int)))]), (false, [.v false (.int .i64 (bif bif decide (n < (2 : Int)) then true else decide (n > (256 : Int)) then (1 : Int) else (0 : Int)))])])) (.bad 116) : Tr AV).val = some (.tup [(true, [.d false false .str (nwP n), .v false (.int .i64 (0)), .v false (.bool (false)), .v false (.int .i64 (0))]), (false, [.v false (.int .i64 (nwE n))])]) := by
  unfold nwP nwE
  simp only [nw_bad]
  cases ho : nwO n
  · simp [Tr.val]
  · have h := of_decide_eq_true (show decide (2 ≤ n ∧ n ≤ 256) = true from ho)
    obtain ⟨N, rfl⟩ : ∃ N : Nat, n = N := ⟨n.toNat, by omega⟩
    obtain ⟨v1, v2⟩ := rnw_run N (by omega)
    simp [v1, v2, Nat.beq, Tr.val]
noncomputable def rnc_g : List AV → Option (Tr AV)
  | [.one (.v _ (.int .i64 n))] => some (.ret (.tup [(true, [.d false false .str (nwP n), .v false (.int .i64 (0)), .v false (.bool (false)), .v false (.int .i64 (0))]), (false, [.v false (.int .i64 (nwE n))])]))
  | _ => none
set_option maxHeartbeats 4000000 in
theorem rnc_ok : FunOK Try.prog 10 rnc_g := by
  refine fun_ok (by kernel_rfl) (fsB_S53_ok) (fsB_L54_ok) 9 (On := (opens [])) (fun args t h => ?_)
  unfold rnc_g at h
  split at h
  · rename_i _ n
    simp only [Option.some.injEq] at h
    subst h
    refine ⟨[.one (.v false (.int .i64 n))], rfl, fun fr w us h => h, fun r hr => ?_⟩
    simp only [Tr.val, Option.some.injEq] at hr
    subst hr
    rw [rnc_tree]
    exact rnc_val n
  · cases h
noncomputable def fsB_S55 : Sums := addS 10 rnc_g fsB_S53
theorem fsB_S55_ok : SumOK Try.prog fsB_S55 := addS_ok (rnc_ok) (fsB_S53_ok)
set_option maxRecDepth 100000 in
theorem nwc_tree (n : Int) : evalF Try.prog fsB_S55 (opens []) fsB_L54 9 9 [.one (.v false (.int .i64 n))] = .br ((bif bif decide (n < (2 : Int)) then true else decide (n > (256 : Int)) then true else ((true) && (decide ((1 : Nat) = (1 : Nat) ∧ (1 : Int) ≤ n ∧ n ≤ (4096 : Int)))))) (.ret (.tup [(true, [.d false false .str (bif bif decide (n < (2 : Int)) then true else decide (n > (256 : Int)) then [] else repS [zpS] n), .v false (.int .i64 (bif bif decide (n < (2 : Int)) then true else decide (n > (256 : Int)) then (0 : Int) else (0 : Int))), .v false (.bool (bif bif decide (n < (2 : Int)) then true else decide (n > (256 : Int)) then false else false)), .v false (.int .i64 (bif bif decide (n < (2 : Int)) then true else decide (n > (256 : Int)) then (0 : Int) else (0 : Int)))]), (false, [.v false (.int .i64 (bif bif decide (n < (2 : Int)) then true else decide (n > (256 : Int)) then (1 : Int) else (0 : Int)))])])) (.bad 116) := by kernel_rfl
set_option maxHeartbeats 4000000 in
theorem nwc_val (n : Int) : (.br ((bif bif decide (n < (2 : Int)) then true else decide (n > (256 : Int)) then true else ((true) && (decide ((1 : Nat) = (1 : Nat) ∧ (1 : Int) ≤ n ∧ n ≤ (4096 : Int)))))) (.ret (.tup [(true, [.d false false .str (bif bif decide (n < (2 : Int)) then true else decide (n > (256 : Int)) then [] else repS [zpS] n), .v false (.int .i64 (bif bif decide (n < (2 : Int)) then true else decide (n > (256 : Int)) then (0 : Int) else (0 : Int))), .v false (.bool (bif bif decide (n < (2 : Int)) then true else decide (n > (256 : Int)) then false else false)), .v false (.int .i64 (bif bif decide (n < (2 : Int)) then true else decide (n > (256 : Int)) then (0 : Int) else (0 : Int)))]), (false, [.v false (.int .i64 (bif bif decide (n < (2 : Int)) then true else decide (n > (256 : Int)) then (1 : Int) else (0 : Int)))])])) (.bad 116) : Tr AV).val = some (.tup [(true, [.d false false .str (nwP n), .v false (.int .i64 (0)), .v false (.bool (false)), .v false (.int .i64 (0))]), (false, [.v false (.int .i64 (nwE n))])]) := by
  unfold nwP nwE
  simp only [nw_bad]
  cases ho : nwO n
  · simp [Tr.val]
  · have h := of_decide_eq_true (show decide (2 ≤ n ∧ n ≤ 256) = true from ho)
    have e1 : decide (1 ≤ n ∧ n ≤ 4096) = true := decide_eq_true (by omega)
    have e2 : el_s [zpS] 0 = zpS := rfl
    simp [h, e1, e2, repS, Tr.val]
noncomputable def nwc_g : List AV → Option (Tr AV)
  | [.one (.v _ (.int .i64 n))] => some (.ret (.tup [(true, [.d false false .str (nwP n), .v false (.int .i64 (0)), .v false (.bool (false)), .v false (.int .i64 (0))]), (false, [.v false (.int .i64 (nwE n))])]))
  | _ => none
set_option maxHeartbeats 4000000 in
theorem nwc_ok : FunOK Try.prog 9 nwc_g := by
  refine fun_ok (by kernel_rfl) (fsB_S55_ok) (fsB_L54_ok) 9 (On := (opens [])) (fun args t h => ?_)
  unfold nwc_g at h
  split at h
  · rename_i _ n
    simp only [Option.some.injEq] at h
    subst h
    refine ⟨[.one (.v false (.int .i64 n))], rfl, fun fr w us h => h, fun r hr => ?_⟩
    simp only [Tr.val, Option.some.injEq] at hr
    subst hr
    rw [nwc_tree]
    exact nwc_val n
  · cases h
noncomputable def fsB_S56 : Sums := addS 9 nwc_g fsB_S55
theorem fsB_S56_ok : SumOK Try.prog fsB_S56 := addS_ok (nwc_ok) (fsB_S55_ok)
end Go.Proofs.Ytabjagbdaamaaaa
