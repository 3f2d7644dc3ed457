/-
  Layer 39: texts of commands.
-/
import Derived.Test.YtadpmcdokgdefaaDoorProg
import Derived.Test.YtadpmcdokgdefaaDoorFvX
import Derived.Test.YtadpmcdokgdefaaDoorFvZ
import Derived.Test.YtadpmcdokgdefaaDoorAut
import Derived.Test.YtadpmcdokgdefaaDoorPl
import Derived.Test.YtadpmcdokgdefaaDoorGcm
import Derived.Test.YtadpmcdokgdefaaDoorGcA
import Derived.Test.YtadpmcdokgdefaaDoorFmt
namespace Go.Proofs.YtadpmcdokgdefaaDoor
open Go
def itB (n : Int) : ByteArray := ⟨(Lib.itoa n).toArray⟩
def nmL (c : Int) : List UInt8 := bif decide (c < 1000) then 71 :: Lib.itoa c else 77 :: Lib.itoa (c - 1000)
def nmB (c : Int) : ByteArray := ⟨(nmL c).toArray⟩
theorem inI_iff {n : Int} : inI n = true ↔ -9223372036854775808 ≤ n ∧ n ≤ 9223372036854775807 := by
  unfold inI
  rw [Bool.and_eq_true, decide_eq_true_iff, decide_eq_true_iff]
theorem sub_wid {c : Int} (h : inI c = true) (g : ¬ c < 1000) : IntKind.wrap IntKind.i64 (c - 1000) = c - 1000 := by
  have := inI_iff.1 h
  exact wid (by omega) (by omega)
theorem itB_le {n : Int} (h : inI n = true) : (itB n).size ≤ 21 := by
  have := inI_iff.1 h
  show (Lib.itoa n).toArray.size ≤ 21
  rw [List.size_toArray]
  unfold Lib.itoa
  split
  · have := dec_len n.natAbs (by omega)
    rw [List.length_cons]; omega
  · have := dec_len n.toNat (by omega)
    omega
def fmc_g : List AV → Option (Tr AV)
  | [.one (.v _ (.int .i64 n))] => some (.br (inI n) (.ret (.one (.v false (.string (itB n))))) (.bad 900))
  | _ => none
set_option maxHeartbeats 4000000 in
theorem fmc_ok : FunOK Tryd.prog 23 fmc_g := by
  refine fun_of_callsB fun args t h r hr fr w us hbas hus => ?_
  unfold fmc_g at h
  split at h
  · rename_i _ n
    simp only [Option.some.injEq] at h
    subst h
    obtain ⟨hc, hr⟩ := br_bad hr
    simp only [Tr.val, Option.some.injEq] at hr
    subst hr
    obtain ⟨_, _, rfl, e0, rfl⟩ := hus
    cases e0
    exact ⟨_, num_Format n (inI_iff.1 hc).1 (inI_iff.1 hc).2 w hbas, fun _ _ => rfl, rfl⟩
  · cases h
def gcB_S1 : Sums := addS 23 fmc_g gcA_S8
theorem gcB_S1_ok : SumOK Tryd.prog gcB_S1 := addS_ok (fmc_ok) (gcA_S8_ok)
def fmr_g : List AV → Option (Tr AV)
  | [.one (.v _ (.int .i64 n))] => some (.br (inI n) (.ret (.one (.v false (.string (itB n))))) (.bad 900))
  | _ => none
set_option maxHeartbeats 4000000 in
theorem fmr_ok : FunOK Tryd.prog 25 fmr_g := by
  refine fun_of_calls fun args t h r hr fr w us hus => ?_
  unfold fmr_g at h
  split at h
  · rename_i _ n
    simp only [Option.some.injEq] at h
    subst h
    obtain ⟨hc, hr⟩ := br_bad hr
    simp only [Tr.val, Option.some.injEq] at hr
    subst hr
    obtain ⟨_, _, rfl, e0, rfl⟩ := hus
    cases e0
    exact ⟨_, ref_Format n (inI_iff.1 hc).1 (inI_iff.1 hc).2 w, fun _ _ => rfl, rfl⟩
  · cases h
def gcB_S2 : Sums := addS 25 fmr_g gcB_S1
theorem gcB_S2_ok : SumOK Tryd.prog gcB_S2 := addS_ok (fmr_ok) (gcB_S1_ok)
set_option maxRecDepth 100000 in
theorem nmc_tree (c : Int) : evalF Tryd.prog gcB_S2 (opens []) L0 9 22 [.one (.v false (.int .i64 c))] = .br ((bif decide (c < (1000 : Int)) then ((inI c) && (decide ((↑(ByteArray.size (ByteArray.mk #[(71 : UInt8)]) + ByteArray.size (itB c)) : Int) ≤ (9223372036854775807 : Int)))) else ((inI (IntKind.wrap IntKind.i64 (c - (1000 : Int)))) && (decide ((↑(ByteArray.size (ByteArray.mk #[(77 : UInt8)]) + ByteArray.size (itB (IntKind.wrap IntKind.i64 (c - (1000 : Int))))) : Int) ≤ (9223372036854775807 : Int)))))) (.ret (.one (.v false (.string (bif decide (c < (1000 : Int)) then (ByteArray.mk #[(71 : UInt8)]) ++ itB c else (ByteArray.mk #[(77 : UInt8)]) ++ itB (IntKind.wrap IntKind.i64 (c - (1000 : Int)))))))) (.bad 116) := by kernel_rfl
theorem nmc_val (c : Int) (hc : (inI c) = true) : (.br ((bif decide (c < (1000 : Int)) then ((inI c) && (decide ((↑(ByteArray.size (ByteArray.mk #[(71 : UInt8)]) + ByteArray.size (itB c)) : Int) ≤ (9223372036854775807 : Int)))) else ((inI (IntKind.wrap IntKind.i64 (c - (1000 : Int)))) && (decide ((↑(ByteArray.size (ByteArray.mk #[(77 : UInt8)]) + ByteArray.size (itB (IntKind.wrap IntKind.i64 (c - (1000 : Int))))) : Int) ≤ (9223372036854775807 : Int)))))) (.ret (.one (.v false (.string (bif decide (c < (1000 : Int)) then (ByteArray.mk #[(71 : UInt8)]) ++ itB c else (ByteArray.mk #[(77 : UInt8)]) ++ itB (IntKind.wrap IntKind.i64 (c - (1000 : Int)))))))) (.bad 116) : Tr AV).val = some (.one (.v false (.string (nmB c)))) := by
  have hr := inI_iff.1 hc
  unfold nmB nmL
  by_cases g : c < 1000
  · have z1 := itB_le hc
    have z2 : decide (((ByteArray.size (ByteArray.mk #[(71 : UInt8)]) + ByteArray.size (itB c) : Nat) : Int) ≤ (9223372036854775807 : Int)) = true := decide_eq_true (by show ((1 + (itB c).size : Nat) : Int) ≤ _; omega)
    simp only [decide_eq_true g, cond_true, hc, z2, Bool.and_self, Tr.val]
    unfold itB
    rw [str_cons]
  · have hw := sub_wid hc g
    have hi : inI (c - 1000) = true := inI_iff.2 ⟨by omega, by omega⟩
    have z1 := itB_le hi
    have z2 : decide (((ByteArray.size (ByteArray.mk #[(77 : UInt8)]) + ByteArray.size (itB (c - 1000)) : Nat) : Int) ≤ (9223372036854775807 : Int)) = true := decide_eq_true (by show ((1 + (itB (c - 1000)).size : Nat) : Int) ≤ _; omega)
    rw [hw]
    simp only [decide_eq_false g, cond_false, hi, z2, Bool.and_self, Tr.val]
    unfold itB
    rw [str_cons]
    rfl
def nmc_g : List AV → Option (Tr AV)
  | [.one (.v _ (.int .i64 c))] => some (.br (inI c) (.ret (.one (.v false (.string (nmB c))))) (.bad 900))
  | _ => none
set_option maxHeartbeats 4000000 in
theorem nmc_ok : FunOK Tryd.prog 22 nmc_g := by
  refine fun_ok (by kernel_rfl) (gcB_S2_ok) (L0_ok _) 9 (On := (opens [])) (fun args t h => ?_)
  unfold nmc_g at h
  split at h
  · rename_i _ c
    simp only [Option.some.injEq] at h
    subst h
    refine ⟨[.one (.v false (.int .i64 c))], rfl, fun fr w us h => h, fun r hr => ?_⟩
    obtain ⟨hc, hr⟩ := br_bad hr
    simp only [Tr.val, Option.some.injEq] at hr
    subst hr
    rw [nmc_tree]
    exact nmc_val c hc
  · cases h
def gcB_S3 : Sums := addS 22 nmc_g gcB_S2
theorem gcB_S3_ok : SumOK Tryd.prog gcB_S3 := addS_ok (nmc_ok) (gcB_S2_ok)
set_option maxRecDepth 100000 in
theorem nmr_tree (c : Int) : evalF Tryd.prog gcB_S3 (opens []) L0 9 24 [.one (.v false (.int .i64 c))] = .br ((bif decide (c < (1000 : Int)) then ((inI c) && (decide ((↑(ByteArray.size (ByteArray.mk #[(71 : UInt8)]) + ByteArray.size (itB c)) : Int) ≤ (9223372036854775807 : Int)))) else ((inI (IntKind.wrap IntKind.i64 (c - (1000 : Int)))) && (decide ((↑(ByteArray.size (ByteArray.mk #[(77 : UInt8)]) + ByteArray.size (itB (IntKind.wrap IntKind.i64 (c - (1000 : Int))))) : Int) ≤ (9223372036854775807 : Int)))))) (.ret (.one (.v false (.string (bif decide (c < (1000 : Int)) then (ByteArray.mk #[(71 : UInt8)]) ++ itB c else (ByteArray.mk #[(77 : UInt8)]) ++ itB (IntKind.wrap IntKind.i64 (c - (1000 : Int)))))))) (.bad 116) := by kernel_rfl
theorem nmr_val (c : Int) (hc : (inI c) = true) : (.br ((bif decide (c < (1000 : Int)) then ((inI c) && (decide ((↑(ByteArray.size (ByteArray.mk #[(71 : UInt8)]) + ByteArray.size (itB c)) : Int) ≤ (9223372036854775807 : Int)))) else ((inI (IntKind.wrap IntKind.i64 (c - (1000 : Int)))) && (decide ((↑(ByteArray.size (ByteArray.mk #[(77 : UInt8)]) + ByteArray.size (itB (IntKind.wrap IntKind.i64 (c - (1000 : Int))))) : Int) ≤ (9223372036854775807 : Int)))))) (.ret (.one (.v false (.string (bif decide (c < (1000 : Int)) then (ByteArray.mk #[(71 : UInt8)]) ++ itB c else (ByteArray.mk #[(77 : UInt8)]) ++ itB (IntKind.wrap IntKind.i64 (c - (1000 : Int)))))))) (.bad 116) : Tr AV).val = some (.one (.v false (.string (nmB c)))) := by
  have hr := inI_iff.1 hc
  unfold nmB nmL
  by_cases g : c < 1000
  · have z1 := itB_le hc
    have z2 : decide (((ByteArray.size (ByteArray.mk #[(71 : UInt8)]) + ByteArray.size (itB c) : Nat) : Int) ≤ (9223372036854775807 : Int)) = true := decide_eq_true (by show ((1 + (itB c).size : Nat) : Int) ≤ _; omega)
    simp only [decide_eq_true g, cond_true, hc, z2, Bool.and_self, Tr.val]
    unfold itB
    rw [str_cons]
  · have hw := sub_wid hc g
    have hi : inI (c - 1000) = true := inI_iff.2 ⟨by omega, by omega⟩
    have z1 := itB_le hi
    have z2 : decide (((ByteArray.size (ByteArray.mk #[(77 : UInt8)]) + ByteArray.size (itB (c - 1000)) : Nat) : Int) ≤ (9223372036854775807 : Int)) = true := decide_eq_true (by show ((1 + (itB (c - 1000)).size : Nat) : Int) ≤ _; omega)
    rw [hw]
    simp only [decide_eq_false g, cond_false, hi, z2, Bool.and_self, Tr.val]
    unfold itB
    rw [str_cons]
    rfl
def nmr_g : List AV → Option (Tr AV)
  | [.one (.v _ (.int .i64 c))] => some (.br (inI c) (.ret (.one (.v false (.string (nmB c))))) (.bad 900))
  | _ => none
set_option maxHeartbeats 4000000 in
theorem nmr_ok : FunOK Tryd.prog 24 nmr_g := by
  refine fun_ok (by kernel_rfl) (gcB_S3_ok) (L0_ok _) 9 (On := (opens [])) (fun args t h => ?_)
  unfold nmr_g at h
  split at h
  · rename_i _ c
    simp only [Option.some.injEq] at h
    subst h
    refine ⟨[.one (.v false (.int .i64 c))], rfl, fun fr w us h => h, fun r hr => ?_⟩
    obtain ⟨hc, hr⟩ := br_bad hr
    simp only [Tr.val, Option.some.injEq] at hr
    subst hr
    rw [nmr_tree]
    exact nmr_val c hc
  · cases h
def gcB_S4 : Sums := addS 24 nmr_g gcB_S3
theorem gcB_S4_ok : SumOK Tryd.prog gcB_S4 := addS_ok (nmr_ok) (gcB_S3_ok)
def vb (i j : Int) : ByteArray := (ByteArray.mk #[(32 : UInt8)]) ++ ByteArray.extract (ByteArray.mk #[(88 : UInt8), (89 : UInt8), (90 : UInt8), (69 : UInt8), (70 : UInt8), (83 : UInt8)]) (Int.toNat i) (Int.toNat j)
def prR (b : Int) : List (Int × Int × Int) → ByteArray → ByteArray
  | [], t => t
  | (i, j, n) :: r, t => bif hsB b i then prR b r (t ++ (vb i j ++ itB n)) else prR b r t
def prE (b : Int) : List (Int × Int × Int) → Int
  | [] => 0
  | (i, _, _) :: r => bif hsB b i then prE b r else prE b r
def prC (b : Int) : List (Int × Int × Int) → ByteArray → Bool
  | [], _ => true
  | (i, j, n) :: [], t => bif hsB b i then (inI n && (decide (((ByteArray.size (vb i j) + ByteArray.size (itB n) : Nat) : Int) ≤ (9223372036854775807 : Int)) && decide (((ByteArray.size t + ByteArray.size (vb i j ++ itB n) : Nat) : Int) ≤ (9223372036854775807 : Int)))) else true
  | (i, j, n) :: p :: r, t => bif hsB b i then (inI n && (decide (((ByteArray.size (vb i j) + ByteArray.size (itB n) : Nat) : Int) ≤ (9223372036854775807 : Int)) && (decide (((ByteArray.size t + ByteArray.size (vb i j ++ itB n) : Nat) : Int) ≤ (9223372036854775807 : Int)) && prC b (p :: r) (t ++ (vb i j ++ itB n))))) else prC b (p :: r) t
def six (x y z e f s : Int) : List (Int × Int × Int) := [(0, 1, x), (1, 2, y), (2, 3, z), (3, 4, e), (4, 5, f), (5, 6, s)]
def lts (b x y z e f s : Int) : List (Bool × UInt8 × Int) := [(hsB b 0, 88, x), (hsB b 1, 89, y), (hsB b 2, 90, z), (hsB b 3, 69, e), (hsB b 4, 70, f), (hsB b 5, 83, s)]
def prtB (a b x y z e f s : Int) : ByteArray := bif vld a b x y z e f s then ⟨(ctx a (lts b x y z e f s)).toArray⟩ else ⟨#[]⟩
def inI8 (a b x y z e f s : Int) : Bool := inI a && (inI b && (inI x && (inI y && (inI z && (inI e && (inI f && inI s))))))
theorem prE_0 (b : Int) : ∀ l, prE b l = 0
  | [] => rfl
  | (i, _, _) :: r => by
    show (bif hsB b i then prE b r else prE b r) = 0
    rw [prE_0 b r, Bool.cond_self]
theorem prC_ok (b : Int) : ∀ (l : List (Int × Int × Int)) (t : ByteArray), (∀ x ∈ l, inI x.2.2 = true ∧ (vb x.1 x.2.1).size ≤ 7) → t.size + 28 * l.length ≤ 1000 → prC b l t = true
  | [], _, _, _ => rfl
  | (i, j, n) :: [], t, h, hs => by
    obtain ⟨h1, h2⟩ := h _ List.mem_cons_self
    have h1 : inI n = true := h1
    have h2 : (vb i j).size ≤ 7 := h2
    have h3 := itB_le h1
    have hs : t.size + 28 ≤ 1000 := hs
    unfold prC
    rw [h1, ByteArray.size_append, decide_eq_true (by omega), decide_eq_true (by omega)]
    simp
  | (i, j, n) :: p :: r, t, h, hs => by
    obtain ⟨h1, h2⟩ := h _ List.mem_cons_self
    have h1 : inI n = true := h1
    have h2 : (vb i j).size ≤ 7 := h2
    have h3 := itB_le h1
    have hs : t.size + 28 * (r.length + 1 + 1) ≤ 1000 := hs
    have r1 := prC_ok b (p :: r) t (fun x hx => h x (List.mem_cons_of_mem _ hx)) (by rw [List.length_cons]; omega)
    have r2 := prC_ok b (p :: r) (t ++ (vb i j ++ itB n)) (fun x hx => h x (List.mem_cons_of_mem _ hx)) (by rw [ByteArray.size_append, ByteArray.size_append, List.length_cons]; omega)
    unfold prC
    rw [h1, r1, r2, ByteArray.size_append, decide_eq_true (by omega), decide_eq_true (by omega)]
    simp
theorem prR_app (b : Int) : ∀ (l : List (Int × Int × Int)) (g : Int → UInt8) (t : List UInt8), (∀ x ∈ l, vb x.1 x.2.1 = ⟨[32, g x.1].toArray⟩) → prR b l ⟨t.toArray⟩ = ⟨(t ++ wrds (l.map fun x => (hsB b x.1, g x.1, x.2.2))).toArray⟩
  | [], _, t, _ => by rw [List.map_nil]; unfold wrds; rw [List.append_nil]; rfl
  | (i, j, n) :: r, g, t, h => by
    have h1 : vb i j = ⟨[32, g i].toArray⟩ := h (i, j, n) List.mem_cons_self
    have h2 := fun t => prR_app b r g t (fun x hx => h x (List.mem_cons_of_mem _ hx))
    unfold prR
    rw [List.map_cons]
    show (bif hsB b i then _ else _) = (⟨(t ++ (wrd (hsB b i) (g i) n ++ _)).toArray⟩ : ByteArray)
    unfold wrd
    cases hsB b i
    · rw [cond_false, h2]; rfl
    · rw [cond_true, h1]
      unfold itB
      rw [ba_app, ba_app, h2, cond_true, List.append_assoc]; rfl
def gl (i : Int) : UInt8 := if i = 0 then 88 else if i = 1 then 89 else if i = 2 then 90 else if i = 3 then 69 else if i = 4 then 70 else 83
theorem six_ok (x y z e f s : Int) : ∀ p ∈ six x y z e f s, vb p.1 p.2.1 = ⟨[32, gl p.1].toArray⟩ := by
  intro p hp
  unfold six at hp
  simp only [List.mem_cons, List.not_mem_nil, or_false] at hp
  rcases hp with rfl | rfl | rfl | rfl | rfl | rfl <;> kernel_rfl
theorem six_prR (b x y z e f s : Int) (t : List UInt8) : prR b (six x y z e f s) ⟨t.toArray⟩ = ⟨(t ++ wrds (lts b x y z e f s)).toArray⟩ := prR_app b (six x y z e f s) gl t (six_ok x y z e f s)
theorem nm_le {c : Int} (h : inI c = true) : (nmB c).size ≤ 22 := by
  have hr := inI_iff.1 h
  show (nmL c).toArray.size ≤ 22
  rw [List.size_toArray]
  unfold nmL
  by_cases g : c < 1000
  · rw [decide_eq_true g, cond_true, List.length_cons]
    have := itB_le h
    have : (Lib.itoa c).toArray.size ≤ 21 := this
    rw [List.size_toArray] at this
    omega
  · rw [decide_eq_false g, cond_false, List.length_cons]
    have := itB_le (n := c - 1000) (inI_iff.2 ⟨by omega, by omega⟩)
    have : (Lib.itoa (c - 1000)).toArray.size ≤ 21 := this
    rw [List.size_toArray] at this
    omega
theorem inI8_iff {a b x y z e f s : Int} (h : inI8 a b x y z e f s = true) : inI a = true ∧ inI b = true ∧ inI x = true ∧ inI y = true ∧ inI z = true ∧ inI e = true ∧ inI f = true ∧ inI s = true := by
  unfold inI8 at h
  simp only [Bool.and_eq_true] at h
  exact h
theorem prt_val {a b x y z e f s : Int} (h : inI8 a b x y z e f s = true) : (inI b && (bif !vld a b x y z e f s then true else (inI a && prC b (six x y z e f s) (nmB a)))) = true ∧ (bif !vld a b x y z e f s then (ByteArray.mk #[]) else prR b (six x y z e f s) (nmB a)) = prtB a b x y z e f s ∧ (bif !vld a b x y z e f s then (1 : Int) else prE b (six x y z e f s)) = (bif vld a b x y z e f s then 0 else 1) := by
  obtain ⟨h1, h2, h3, h4, h5, h6, h7, h8⟩ := inI8_iff h
  have c : prC b (six x y z e f s) (nmB a) = true := prC_ok b _ _ (by
    intro p hp
    refine ⟨?_, ?_⟩
    · unfold six at hp
      simp only [List.mem_cons, List.not_mem_nil, or_false] at hp
      rcases hp with rfl | rfl | rfl | rfl | rfl | rfl
      · exact h3
      · exact h4
      · exact h5
      · exact h6
      · exact h7
      · exact h8
    · rw [six_ok x y z e f s p hp]
      show 2 ≤ 7
      omega) (by
    have := nm_le h1
    show _ + 28 * 6 ≤ 1000
    omega)
  refine ⟨by rw [h2, h1, c]; cases vld a b x y z e f s <;> rfl, ?_, ?_⟩
  · unfold prtB nmB
    rw [six_prR]
    cases vld a b x y z e f s <;> rfl
  · rw [prE_0]
    cases vld a b x y z e f s <;> rfl
set_option maxRecDepth 100000 in
theorem prc_tree (a : Int) (b : Int) (x : Int) (y : Int) (z : Int) (e : Int) (f : Int) (s : Int) : evalF Tryd.prog gcB_S4 (opens []) L0 9 10 [.ag [.v false (.int .i64 a), .v false (.int .i64 b), .v false (.int .i64 x), .v false (.int .i64 y), .v false (.int .i64 z), .v false (.int .i64 e), .v false (.int .i64 f), .v false (.int .i64 s)]] = .br (inI b && (bif !vld a b x y z e f s then true else (inI a && prC b (six x y z e f s) (nmB a)))) (.ret (.tup [(false, [.v false (.string (bif !vld a b x y z e f s then (ByteArray.mk #[]) else prR b (six x y z e f s) (nmB a)))]), (false, [.v false (.int .i64 (bif !vld a b x y z e f s then (1 : Int) else prE b (six x y z e f s)))])])) (.bad 116) := by kernel_rfl
theorem prc_val (a : Int) (b : Int) (x : Int) (y : Int) (z : Int) (e : Int) (f : Int) (s : Int) (hc : (inI8 a b x y z e f s) = true) : (.br (inI b && (bif !vld a b x y z e f s then true else (inI a && prC b (six x y z e f s) (nmB a)))) (.ret (.tup [(false, [.v false (.string (bif !vld a b x y z e f s then (ByteArray.mk #[]) else prR b (six x y z e f s) (nmB a)))]), (false, [.v false (.int .i64 (bif !vld a b x y z e f s then (1 : Int) else prE b (six x y z e f s)))])])) (.bad 116) : Tr AV).val = some (.tup [(false, [.v false (.string (prtB a b x y z e f s))]), (false, [.v false (.int .i64 (bif vld a b x y z e f s then 0 else 1))])]) := by
  obtain ⟨h1, h2, h3⟩ := prt_val hc
  rw [h1, h2, h3]; rfl
def prc_g : List AV → Option (Tr AV)
  | [.ag [.v _ (.int .i64 a), .v _ (.int .i64 b), .v _ (.int .i64 x), .v _ (.int .i64 y), .v _ (.int .i64 z), .v _ (.int .i64 e), .v _ (.int .i64 f), .v _ (.int .i64 s)]] => some (.br (inI8 a b x y z e f s) (.ret (.tup [(false, [.v false (.string (prtB a b x y z e f s))]), (false, [.v false (.int .i64 (bif vld a b x y z e f s then 0 else 1))])])) (.bad 900))
  | _ => none
set_option maxHeartbeats 4000000 in
theorem prc_ok : FunOK Tryd.prog 10 prc_g := by
  refine fun_ok (by kernel_rfl) (gcB_S4_ok) (L0_ok _) 9 (On := (opens [])) (fun args t h => ?_)
  unfold prc_g at h
  split at h
  · rename_i _ a _ b _ x _ y _ z _ e _ f _ s
    simp only [Option.some.injEq] at h
    subst h
    refine ⟨[.ag [.v false (.int .i64 a), .v false (.int .i64 b), .v false (.int .i64 x), .v false (.int .i64 y), .v false (.int .i64 z), .v false (.int .i64 e), .v false (.int .i64 f), .v false (.int .i64 s)]], rfl, fun fr w us h => h, fun r hr => ?_⟩
    obtain ⟨hc, hr⟩ := br_bad hr
    simp only [Tr.val, Option.some.injEq] at hr
    subst hr
    rw [prc_tree]
    exact prc_val a b x y z e f s hc
  · cases h
def gcB_S5 : Sums := addS 10 prc_g gcB_S4
theorem gcB_S5_ok : SumOK Tryd.prog gcB_S5 := addS_ok (prc_ok) (gcB_S4_ok)
set_option maxRecDepth 100000 in
theorem prr_tree (a : Int) (b : Int) (x : Int) (y : Int) (z : Int) (e : Int) (f : Int) (s : Int) : evalF Tryd.prog gcB_S5 (opens []) L0 9 11 [.ag [.v false (.int .i64 a), .v false (.int .i64 b), .v false (.int .i64 x), .v false (.int .i64 y), .v false (.int .i64 z), .v false (.int .i64 e), .v false (.int .i64 f), .v false (.int .i64 s)]] = .br (inI b && (bif !vld a b x y z e f s then true else (inI a && prC b (six x y z e f s) (nmB a)))) (.ret (.tup [(false, [.v false (.string (bif !vld a b x y z e f s then (ByteArray.mk #[]) else prR b (six x y z e f s) (nmB a)))]), (false, [.v false (.int .i64 (bif !vld a b x y z e f s then (1 : Int) else prE b (six x y z e f s)))])])) (.bad 116) := by kernel_rfl
theorem prr_val (a : Int) (b : Int) (x : Int) (y : Int) (z : Int) (e : Int) (f : Int) (s : Int) (hc : (inI8 a b x y z e f s) = true) : (.br (inI b && (bif !vld a b x y z e f s then true else (inI a && prC b (six x y z e f s) (nmB a)))) (.ret (.tup [(false, [.v false (.string (bif !vld a b x y z e f s then (ByteArray.mk #[]) else prR b (six x y z e f s) (nmB a)))]), (false, [.v false (.int .i64 (bif !vld a b x y z e f s then (1 : Int) else prE b (six x y z e f s)))])])) (.bad 116) : Tr AV).val = some (.tup [(false, [.v false (.string (prtB a b x y z e f s))]), (false, [.v false (.int .i64 (bif vld a b x y z e f s then 0 else 1))])]) := by
  obtain ⟨h1, h2, h3⟩ := prt_val hc
  rw [h1, h2, h3]; rfl
def prr_g : List AV → Option (Tr AV)
  | [.ag [.v _ (.int .i64 a), .v _ (.int .i64 b), .v _ (.int .i64 x), .v _ (.int .i64 y), .v _ (.int .i64 z), .v _ (.int .i64 e), .v _ (.int .i64 f), .v _ (.int .i64 s)]] => some (.br (inI8 a b x y z e f s) (.ret (.tup [(false, [.v false (.string (prtB a b x y z e f s))]), (false, [.v false (.int .i64 (bif vld a b x y z e f s then 0 else 1))])])) (.bad 900))
  | _ => none
set_option maxHeartbeats 4000000 in
theorem prr_ok : FunOK Tryd.prog 11 prr_g := by
  refine fun_ok (by kernel_rfl) (gcB_S5_ok) (L0_ok _) 9 (On := (opens [])) (fun args t h => ?_)
  unfold prr_g at h
  split at h
  · rename_i _ a _ b _ x _ y _ z _ e _ f _ s
    simp only [Option.some.injEq] at h
    subst h
    refine ⟨[.ag [.v false (.int .i64 a), .v false (.int .i64 b), .v false (.int .i64 x), .v false (.int .i64 y), .v false (.int .i64 z), .v false (.int .i64 e), .v false (.int .i64 f), .v false (.int .i64 s)]], rfl, fun fr w us h => h, fun r hr => ?_⟩
    obtain ⟨hc, hr⟩ := br_bad hr
    simp only [Tr.val, Option.some.injEq] at hr
    subst hr
    rw [prr_tree]
    exact prr_val a b x y z e f s hc
  · cases h
def gcB_S6 : Sums := addS 11 prr_g gcB_S5
theorem gcB_S6_ok : SumOK Tryd.prog gcB_S6 := addS_ok (prr_ok) (gcB_S5_ok)
end Go.Proofs.YtadpmcdokgdefaaDoor
