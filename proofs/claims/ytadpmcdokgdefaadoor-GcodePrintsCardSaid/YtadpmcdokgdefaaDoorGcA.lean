/-
  Layer 39: what codes allow; valid commands.
-/
import Derived.Test.YtadpmcdokgdefaaDoorProg
import Derived.Test.YtadpmcdokgdefaaDoorFvX
import Derived.Test.YtadpmcdokgdefaaDoorFvZ
import Derived.Test.YtadpmcdokgdefaaDoorAut
import Derived.Test.YtadpmcdokgdefaaDoorPl
import Derived.Test.YtadpmcdokgdefaaDoorGcm
namespace Go.Proofs.YtadpmcdokgdefaaDoor
open Go
def alw (c : Int) : Int := bif c == 0 then 23 else bif c == 1 then 31 else bif c == 4 then 32 else bif c == 1104 then 32 else bif c == 1109 then 32 else bif c == 1140 then 32 else bif c == 1190 then 32 else bif c == 1106 then 32 else 0
def knw (c : Int) : Bool := bif c == 0 then true else bif c == 1 then true else bif c == 4 then true else bif c == 1104 then true else bif c == 1109 then true else bif c == 1140 then true else bif c == 1190 then true else bif c == 1106 then true else bif c == 28 then true else bif c == 1024 then true else bif c == 1025 then true else bif c == 1107 then true else bif c == 1112 then true else bif c == 1999 then true else false
def rqd (c : Int) : Int := bif c == 0 then 0 else bif c == 1 then 0 else bif c == 4 then 32 else bif c == 1104 then 32 else bif c == 1109 then 32 else bif c == 1140 then 32 else bif c == 1190 then 32 else bif c == 1106 then 32 else 0
def hsB (h : Int) (w : Int) : Bool := IntKind.wrap IntKind.i64 ((BitVec.toNat (BitVec.ofInt (IntKind.bits IntKind.i64) (Int.fdiv h ((2 : Int) ^ min (Int.toNat w) (IntKind.bits IntKind.i64))) &&& BitVec.ofInt (IntKind.bits IntKind.i64) (1 : Int)) : Nat) : Int) == (1 : Int)
def lowB (c w : Int) : Int := bif w == (4 : Int) then (1 : Int) else bif w != (5 : Int) then (-1073741824 : Int) else 0
def highB (c w : Int) : Int := bif w == (4 : Int) then (1048576 : Int) else bif w != (5 : Int) then (1073741824 : Int) else bif c == (4 : Int) then (1048576 : Int) else bif c == (1106 : Int) then (255 : Int) else (400000 : Int)
def rngB (c w n : Int) : Bool := bif decide (n ≥ lowB c w) then decide (n ≤ highB c w) else false
set_option maxRecDepth 100000 in
theorem usg_tree (c : Int) : evalF Tryd.prog S0 (opens []) L0 9 13 [.one (.v false (.int .i64 c))] = .ret (.tup [(false, [.v false (.int .i64 (bif c == (0 : Int) then (23 : Int) else bif c == (1 : Int) then (31 : Int) else bif c == (4 : Int) then (32 : Int) else bif c == (1104 : Int) then (32 : Int) else bif c == (1109 : Int) then (32 : Int) else bif c == (1140 : Int) then (32 : Int) else bif c == (1190 : Int) then (32 : Int) else bif c == (1106 : Int) then (32 : Int) else bif c == (28 : Int) then (0 : Int) else bif c == (1024 : Int) then (0 : Int) else bif c == (1025 : Int) then (0 : Int) else bif c == (1107 : Int) then (0 : Int) else bif c == (1112 : Int) then (0 : Int) else bif c == (1999 : Int) then (0 : Int) else (0 : Int)))]), (false, [.v false (.int .i64 (bif c == (0 : Int) then (0 : Int) else bif c == (1 : Int) then (0 : Int) else bif c == (4 : Int) then (32 : Int) else bif c == (1104 : Int) then (32 : Int) else bif c == (1109 : Int) then (32 : Int) else bif c == (1140 : Int) then (32 : Int) else bif c == (1190 : Int) then (32 : Int) else bif c == (1106 : Int) then (32 : Int) else bif c == (28 : Int) then (0 : Int) else bif c == (1024 : Int) then (0 : Int) else bif c == (1025 : Int) then (0 : Int) else bif c == (1107 : Int) then (0 : Int) else bif c == (1112 : Int) then (0 : Int) else bif c == (1999 : Int) then (0 : Int) else (0 : Int)))]), (false, [.v false (.bool (bif c == (0 : Int) then true else bif c == (1 : Int) then true else bif c == (4 : Int) then true else bif c == (1104 : Int) then true else bif c == (1109 : Int) then true else bif c == (1140 : Int) then true else bif c == (1190 : Int) then true else bif c == (1106 : Int) then true else bif c == (28 : Int) then true else bif c == (1024 : Int) then true else bif c == (1025 : Int) then true else bif c == (1107 : Int) then true else bif c == (1112 : Int) then true else bif c == (1999 : Int) then true else false))])]) := by kernel_rfl
set_option maxHeartbeats 4000000 in
theorem usg_val (c : Int) : (.ret (.tup [(false, [.v false (.int .i64 (bif c == (0 : Int) then (23 : Int) else bif c == (1 : Int) then (31 : Int) else bif c == (4 : Int) then (32 : Int) else bif c == (1104 : Int) then (32 : Int) else bif c == (1109 : Int) then (32 : Int) else bif c == (1140 : Int) then (32 : Int) else bif c == (1190 : Int) then (32 : Int) else bif c == (1106 : Int) then (32 : Int) else bif c == (28 : Int) then (0 : Int) else bif c == (1024 : Int) then (0 : Int) else bif c == (1025 : Int) then (0 : Int) else bif c == (1107 : Int) then (0 : Int) else bif c == (1112 : Int) then (0 : Int) else bif c == (1999 : Int) then (0 : Int) else (0 : Int)))]), (false, [.v false (.int .i64 (bif c == (0 : Int) then (0 : Int) else bif c == (1 : Int) then (0 : Int) else bif c == (4 : Int) then (32 : Int) else bif c == (1104 : Int) then (32 : Int) else bif c == (1109 : Int) then (32 : Int) else bif c == (1140 : Int) then (32 : Int) else bif c == (1190 : Int) then (32 : Int) else bif c == (1106 : Int) then (32 : Int) else bif c == (28 : Int) then (0 : Int) else bif c == (1024 : Int) then (0 : Int) else bif c == (1025 : Int) then (0 : Int) else bif c == (1107 : Int) then (0 : Int) else bif c == (1112 : Int) then (0 : Int) else bif c == (1999 : Int) then (0 : Int) else (0 : Int)))]), (false, [.v false (.bool (bif c == (0 : Int) then true else bif c == (1 : Int) then true else bif c == (4 : Int) then true else bif c == (1104 : Int) then true else bif c == (1109 : Int) then true else bif c == (1140 : Int) then true else bif c == (1190 : Int) then true else bif c == (1106 : Int) then true else bif c == (28 : Int) then true else bif c == (1024 : Int) then true else bif c == (1025 : Int) then true else bif c == (1107 : Int) then true else bif c == (1112 : Int) then true else bif c == (1999 : Int) then true else false))])]) : Tr AV).val = some (.tup [(false, [.v false (.int .i64 (alw c))]), (false, [.v false (.int .i64 (rqd c))]), (false, [.v false (.bool (knw c))])]) := by
  unfold alw rqd knw
  generalize (c == 0) = b0
  generalize (c == 1) = b1
  generalize (c == 4) = b2
  generalize (c == 1104) = b3
  generalize (c == 1109) = b4
  generalize (c == 1140) = b5
  generalize (c == 1190) = b6
  generalize (c == 1106) = b7
  generalize (c == 28) = b8
  generalize (c == 1024) = b9
  generalize (c == 1025) = b10
  generalize (c == 1107) = b11
  generalize (c == 1112) = b12
  generalize (c == 1999) = b13
  cases b0; rotate_left; rfl
  cases b1; rotate_left; rfl
  cases b2; rotate_left; rfl
  cases b3; rotate_left; rfl
  cases b4; rotate_left; rfl
  cases b5; rotate_left; rfl
  cases b6; rotate_left; rfl
  cases b7; rotate_left; rfl
  cases b8; rotate_left; rfl
  cases b9; rotate_left; rfl
  cases b10; rotate_left; rfl
  cases b11; rotate_left; rfl
  cases b12; rotate_left; rfl
  cases b13 <;> rfl
def usg_g : List AV → Option (Tr AV)
  | [.one (.v _ (.int .i64 c))] => some (.ret (.tup [(false, [.v false (.int .i64 (alw c))]), (false, [.v false (.int .i64 (rqd c))]), (false, [.v false (.bool (knw c))])]))
  | _ => none
set_option maxHeartbeats 4000000 in
theorem usg_ok : FunOK Tryd.prog 13 usg_g := by
  refine fun_ok (by kernel_rfl) (S0_ok _) (L0_ok _) 9 (On := (opens [])) (fun args t h => ?_)
  unfold usg_g at h
  split at h
  · rename_i _ c
    simp only [Option.some.injEq] at h
    subst h
    refine ⟨[.one (.v false (.int .i64 c))], rfl, fun fr w us h => h, fun r hr => ?_⟩
    simp only [Tr.val, Option.some.injEq] at hr
    subst hr
    rw [usg_tree]
    exact usg_val c
  · cases h
def gcA_S1 : Sums := addS 13 usg_g S0
theorem gcA_S1_ok : SumOK Tryd.prog gcA_S1 := addS_ok (usg_ok) (S0_ok _)
set_option maxRecDepth 100000 in
theorem hsc_tree (a : Int) (b : Int) (x : Int) (y : Int) (z : Int) (e : Int) (f : Int) (s : Int) (k : Int) : evalF Tryd.prog gcA_S1 (opens []) L0 9 16 [.ag [.v false (.int .i64 a), .v false (.int .i64 b), .v false (.int .i64 x), .v false (.int .i64 y), .v false (.int .i64 z), .v false (.int .i64 e), .v false (.int .i64 f), .v false (.int .i64 s)], .one (.v false (.int .i64 k))] = .br ((decide ((0 : Int) ≤ k))) (.ret (.one (.v false (.bool (IntKind.wrap IntKind.i64 (↑(BitVec.toNat (BitVec.ofInt (IntKind.bits IntKind.i64) (Int.fdiv b ((2 : Int) ^ min (Int.toNat k) (IntKind.bits IntKind.i64))) &&& BitVec.ofInt (IntKind.bits IntKind.i64) (1 : Int))) : Int) == (1 : Int)))))) (.bad 116) := by kernel_rfl
theorem hsc_val (a : Int) (b : Int) (x : Int) (y : Int) (z : Int) (e : Int) (f : Int) (s : Int) (k : Int) (hc : (decide ((0 : Int) ≤ k)) = true) : (.br ((decide ((0 : Int) ≤ k))) (.ret (.one (.v false (.bool (IntKind.wrap IntKind.i64 (↑(BitVec.toNat (BitVec.ofInt (IntKind.bits IntKind.i64) (Int.fdiv b ((2 : Int) ^ min (Int.toNat k) (IntKind.bits IntKind.i64))) &&& BitVec.ofInt (IntKind.bits IntKind.i64) (1 : Int))) : Int) == (1 : Int)))))) (.bad 116) : Tr AV).val = some (.one (.v false (.bool (hsB b k)))) := by
  rw [hc]; rfl
def hsc_g : List AV → Option (Tr AV)
  | [.ag [.v _ (.int .i64 a), .v _ (.int .i64 b), .v _ (.int .i64 x), .v _ (.int .i64 y), .v _ (.int .i64 z), .v _ (.int .i64 e), .v _ (.int .i64 f), .v _ (.int .i64 s)], .one (.v _ (.int .i64 k))] => some (.br (decide ((0 : Int) ≤ k)) (.ret (.one (.v false (.bool (hsB b k))))) (.bad 900))
  | _ => none
set_option maxHeartbeats 4000000 in
theorem hsc_ok : FunOK Tryd.prog 16 hsc_g := by
  refine fun_ok (by kernel_rfl) (gcA_S1_ok) (L0_ok _) 9 (On := (opens [])) (fun args t h => ?_)
  unfold hsc_g at h
  split at h
  · rename_i _ a _ b _ x _ y _ z _ e _ f _ s _ k
    simp only [Option.some.injEq] at h
    subst h
    refine ⟨[.ag [.v false (.int .i64 a), .v false (.int .i64 b), .v false (.int .i64 x), .v false (.int .i64 y), .v false (.int .i64 z), .v false (.int .i64 e), .v false (.int .i64 f), .v false (.int .i64 s)], .one (.v false (.int .i64 k))], rfl, fun fr w us h => h, fun r hr => ?_⟩
    obtain ⟨hc, hr⟩ := br_bad hr
    simp only [Tr.val, Option.some.injEq] at hr
    subst hr
    rw [hsc_tree]
    exact hsc_val a b x y z e f s k hc
  · cases h
def gcA_S2 : Sums := addS 16 hsc_g gcA_S1
theorem gcA_S2_ok : SumOK Tryd.prog gcA_S2 := addS_ok (hsc_ok) (gcA_S1_ok)
set_option maxRecDepth 100000 in
theorem spn_tree (c : Int) (k : Int) : evalF Tryd.prog gcA_S2 (opens []) L0 9 15 [.one (.v false (.int .i64 c)), .one (.v false (.int .i64 k))] = .ret (.tup [(false, [.v false (.int .i64 (bif k == (4 : Int) then (1 : Int) else bif k != (5 : Int) then (-1073741824 : Int) else bif c == (4 : Int) then (0 : Int) else bif c == (1106 : Int) then (0 : Int) else (0 : Int)))]), (false, [.v false (.int .i64 (bif k == (4 : Int) then (1048576 : Int) else bif k != (5 : Int) then (1073741824 : Int) else bif c == (4 : Int) then (1048576 : Int) else bif c == (1106 : Int) then (255 : Int) else (400000 : Int)))])]) := by kernel_rfl
set_option maxHeartbeats 4000000 in
theorem spn_val (c : Int) (k : Int) : (.ret (.tup [(false, [.v false (.int .i64 (bif k == (4 : Int) then (1 : Int) else bif k != (5 : Int) then (-1073741824 : Int) else bif c == (4 : Int) then (0 : Int) else bif c == (1106 : Int) then (0 : Int) else (0 : Int)))]), (false, [.v false (.int .i64 (bif k == (4 : Int) then (1048576 : Int) else bif k != (5 : Int) then (1073741824 : Int) else bif c == (4 : Int) then (1048576 : Int) else bif c == (1106 : Int) then (255 : Int) else (400000 : Int)))])]) : Tr AV).val = some (.tup [(false, [.v false (.int .i64 (lowB c k))]), (false, [.v false (.int .i64 (highB c k))])]) := by
  unfold lowB highB
  cases c == 4 <;> cases c == 1106 <;> rfl
def spn_g : List AV → Option (Tr AV)
  | [.one (.v _ (.int .i64 c)), .one (.v _ (.int .i64 k))] => some (.ret (.tup [(false, [.v false (.int .i64 (lowB c k))]), (false, [.v false (.int .i64 (highB c k))])]))
  | _ => none
set_option maxHeartbeats 4000000 in
theorem spn_ok : FunOK Tryd.prog 15 spn_g := by
  refine fun_ok (by kernel_rfl) (gcA_S2_ok) (L0_ok _) 9 (On := (opens [])) (fun args t h => ?_)
  unfold spn_g at h
  split at h
  · rename_i _ c _ k
    simp only [Option.some.injEq] at h
    subst h
    refine ⟨[.one (.v false (.int .i64 c)), .one (.v false (.int .i64 k))], rfl, fun fr w us h => h, fun r hr => ?_⟩
    simp only [Tr.val, Option.some.injEq] at hr
    subst hr
    rw [spn_tree]
    exact spn_val c k
  · cases h
def gcA_S3 : Sums := addS 15 spn_g gcA_S2
theorem gcA_S3_ok : SumOK Tryd.prog gcA_S3 := addS_ok (spn_ok) (gcA_S2_ok)
def el_i (l : (Ty.list (Ty.int IntKind.i64)).den) (i : Int) : Int := elm (Ty.int IntKind.i64) l i
set_option maxRecDepth 100000 in
theorem knc_tree (c : Int) : evalF Tryd.prog gcA_S3 (opens []) L0 9 17 [.one (.v false (.int .i64 c))] = .ret (.one (.v false (.bool (bif el_i [(0 : Int), (1 : Int), (4 : Int), (28 : Int), (1024 : Int), (1025 : Int), (1104 : Int), (1106 : Int), (1107 : Int), (1109 : Int), (1112 : Int), (1140 : Int), (1190 : Int), (1999 : Int)] (0 : Int) == c then true else bif el_i [(0 : Int), (1 : Int), (4 : Int), (28 : Int), (1024 : Int), (1025 : Int), (1104 : Int), (1106 : Int), (1107 : Int), (1109 : Int), (1112 : Int), (1140 : Int), (1190 : Int), (1999 : Int)] (IntKind.wrap IntKind.i64 ((0 : Int) + (1 : Int))) == c then true else bif el_i [(0 : Int), (1 : Int), (4 : Int), (28 : Int), (1024 : Int), (1025 : Int), (1104 : Int), (1106 : Int), (1107 : Int), (1109 : Int), (1112 : Int), (1140 : Int), (1190 : Int), (1999 : Int)] (IntKind.wrap IntKind.i64 (IntKind.wrap IntKind.i64 ((0 : Int) + (1 : Int)) + (1 : Int))) == c then true else bif el_i [(0 : Int), (1 : Int), (4 : Int), (28 : Int), (1024 : Int), (1025 : Int), (1104 : Int), (1106 : Int), (1107 : Int), (1109 : Int), (1112 : Int), (1140 : Int), (1190 : Int), (1999 : Int)] (IntKind.wrap IntKind.i64 (IntKind.wrap IntKind.i64 (IntKind.wrap IntKind.i64 ((0 : Int) + (1 : Int)) + (1 : Int)) + (1 : Int))) == c then true else bif el_i [(0 : Int), (1 : Int), (4 : Int), (28 : Int), (1024 : Int), (1025 : Int), (1104 : Int), (1106 : Int), (1107 : Int), (1109 : Int), (1112 : Int), (1140 : Int), (1190 : Int), (1999 : Int)] (IntKind.wrap IntKind.i64 (IntKind.wrap IntKind.i64 (IntKind.wrap IntKind.i64 (IntKind.wrap IntKind.i64 ((0 : Int) + (1 : Int)) + (1 : Int)) + (1 : Int)) + (1 : Int))) == c then true else bif el_i [(0 : Int), (1 : Int), (4 : Int), (28 : Int), (1024 : Int), (1025 : Int), (1104 : Int), (1106 : Int), (1107 : Int), (1109 : Int), (1112 : Int), (1140 : Int), (1190 : Int), (1999 : Int)] (IntKind.wrap IntKind.i64 (IntKind.wrap IntKind.i64 (IntKind.wrap IntKind.i64 (IntKind.wrap IntKind.i64 (IntKind.wrap IntKind.i64 ((0 : Int) + (1 : Int)) + (1 : Int)) + (1 : Int)) + (1 : Int)) + (1 : Int))) == c then true else bif el_i [(0 : Int), (1 : Int), (4 : Int), (28 : Int), (1024 : Int), (1025 : Int), (1104 : Int), (1106 : Int), (1107 : Int), (1109 : Int), (1112 : Int), (1140 : Int), (1190 : Int), (1999 : Int)] (IntKind.wrap IntKind.i64 (IntKind.wrap IntKind.i64 (IntKind.wrap IntKind.i64 (IntKind.wrap IntKind.i64 (IntKind.wrap IntKind.i64 (IntKind.wrap IntKind.i64 ((0 : Int) + (1 : Int)) + (1 : Int)) + (1 : Int)) + (1 : Int)) + (1 : Int)) + (1 : Int))) == c then true else bif el_i [(0 : Int), (1 : Int), (4 : Int), (28 : Int), (1024 : Int), (1025 : Int), (1104 : Int), (1106 : Int), (1107 : Int), (1109 : Int), (1112 : Int), (1140 : Int), (1190 : Int), (1999 : Int)] (IntKind.wrap IntKind.i64 (IntKind.wrap IntKind.i64 (IntKind.wrap IntKind.i64 (IntKind.wrap IntKind.i64 (IntKind.wrap IntKind.i64 (IntKind.wrap IntKind.i64 (IntKind.wrap IntKind.i64 ((0 : Int) + (1 : Int)) + (1 : Int)) + (1 : Int)) + (1 : Int)) + (1 : Int)) + (1 : Int)) + (1 : Int))) == c then true else bif el_i [(0 : Int), (1 : Int), (4 : Int), (28 : Int), (1024 : Int), (1025 : Int), (1104 : Int), (1106 : Int), (1107 : Int), (1109 : Int), (1112 : Int), (1140 : Int), (1190 : Int), (1999 : Int)] (IntKind.wrap IntKind.i64 (IntKind.wrap IntKind.i64 (IntKind.wrap IntKind.i64 (IntKind.wrap IntKind.i64 (IntKind.wrap IntKind.i64 (IntKind.wrap IntKind.i64 (IntKind.wrap IntKind.i64 (IntKind.wrap IntKind.i64 ((0 : Int) + (1 : Int)) + (1 : Int)) + (1 : Int)) + (1 : Int)) + (1 : Int)) + (1 : Int)) + (1 : Int)) + (1 : Int))) == c then true else bif el_i [(0 : Int), (1 : Int), (4 : Int), (28 : Int), (1024 : Int), (1025 : Int), (1104 : Int), (1106 : Int), (1107 : Int), (1109 : Int), (1112 : Int), (1140 : Int), (1190 : Int), (1999 : Int)] (IntKind.wrap IntKind.i64 (IntKind.wrap IntKind.i64 (IntKind.wrap IntKind.i64 (IntKind.wrap IntKind.i64 (IntKind.wrap IntKind.i64 (IntKind.wrap IntKind.i64 (IntKind.wrap IntKind.i64 (IntKind.wrap IntKind.i64 (IntKind.wrap IntKind.i64 ((0 : Int) + (1 : Int)) + (1 : Int)) + (1 : Int)) + (1 : Int)) + (1 : Int)) + (1 : Int)) + (1 : Int)) + (1 : Int)) + (1 : Int))) == c then true else bif el_i [(0 : Int), (1 : Int), (4 : Int), (28 : Int), (1024 : Int), (1025 : Int), (1104 : Int), (1106 : Int), (1107 : Int), (1109 : Int), (1112 : Int), (1140 : Int), (1190 : Int), (1999 : Int)] (IntKind.wrap IntKind.i64 (IntKind.wrap IntKind.i64 (IntKind.wrap IntKind.i64 (IntKind.wrap IntKind.i64 (IntKind.wrap IntKind.i64 (IntKind.wrap IntKind.i64 (IntKind.wrap IntKind.i64 (IntKind.wrap IntKind.i64 (IntKind.wrap IntKind.i64 (IntKind.wrap IntKind.i64 ((0 : Int) + (1 : Int)) + (1 : Int)) + (1 : Int)) + (1 : Int)) + (1 : Int)) + (1 : Int)) + (1 : Int)) + (1 : Int)) + (1 : Int)) + (1 : Int))) == c then true else bif el_i [(0 : Int), (1 : Int), (4 : Int), (28 : Int), (1024 : Int), (1025 : Int), (1104 : Int), (1106 : Int), (1107 : Int), (1109 : Int), (1112 : Int), (1140 : Int), (1190 : Int), (1999 : Int)] (IntKind.wrap IntKind.i64 (IntKind.wrap IntKind.i64 (IntKind.wrap IntKind.i64 (IntKind.wrap IntKind.i64 (IntKind.wrap IntKind.i64 (IntKind.wrap IntKind.i64 (IntKind.wrap IntKind.i64 (IntKind.wrap IntKind.i64 (IntKind.wrap IntKind.i64 (IntKind.wrap IntKind.i64 (IntKind.wrap IntKind.i64 ((0 : Int) + (1 : Int)) + (1 : Int)) + (1 : Int)) + (1 : Int)) + (1 : Int)) + (1 : Int)) + (1 : Int)) + (1 : Int)) + (1 : Int)) + (1 : Int)) + (1 : Int))) == c then true else bif el_i [(0 : Int), (1 : Int), (4 : Int), (28 : Int), (1024 : Int), (1025 : Int), (1104 : Int), (1106 : Int), (1107 : Int), (1109 : Int), (1112 : Int), (1140 : Int), (1190 : Int), (1999 : Int)] (IntKind.wrap IntKind.i64 (IntKind.wrap IntKind.i64 (IntKind.wrap IntKind.i64 (IntKind.wrap IntKind.i64 (IntKind.wrap IntKind.i64 (IntKind.wrap IntKind.i64 (IntKind.wrap IntKind.i64 (IntKind.wrap IntKind.i64 (IntKind.wrap IntKind.i64 (IntKind.wrap IntKind.i64 (IntKind.wrap IntKind.i64 (IntKind.wrap IntKind.i64 ((0 : Int) + (1 : Int)) + (1 : Int)) + (1 : Int)) + (1 : Int)) + (1 : Int)) + (1 : Int)) + (1 : Int)) + (1 : Int)) + (1 : Int)) + (1 : Int)) + (1 : Int)) + (1 : Int))) == c then true else bif el_i [(0 : Int), (1 : Int), (4 : Int), (28 : Int), (1024 : Int), (1025 : Int), (1104 : Int), (1106 : Int), (1107 : Int), (1109 : Int), (1112 : Int), (1140 : Int), (1190 : Int), (1999 : Int)] (IntKind.wrap IntKind.i64 (IntKind.wrap IntKind.i64 (IntKind.wrap IntKind.i64 (IntKind.wrap IntKind.i64 (IntKind.wrap IntKind.i64 (IntKind.wrap IntKind.i64 (IntKind.wrap IntKind.i64 (IntKind.wrap IntKind.i64 (IntKind.wrap IntKind.i64 (IntKind.wrap IntKind.i64 (IntKind.wrap IntKind.i64 (IntKind.wrap IntKind.i64 (IntKind.wrap IntKind.i64 ((0 : Int) + (1 : Int)) + (1 : Int)) + (1 : Int)) + (1 : Int)) + (1 : Int)) + (1 : Int)) + (1 : Int)) + (1 : Int)) + (1 : Int)) + (1 : Int)) + (1 : Int)) + (1 : Int)) + (1 : Int))) == c then true else false)))) := by kernel_rfl
set_option maxHeartbeats 4000000 in
theorem knc_val (c : Int) : (.ret (.one (.v false (.bool (bif el_i [(0 : Int), (1 : Int), (4 : Int), (28 : Int), (1024 : Int), (1025 : Int), (1104 : Int), (1106 : Int), (1107 : Int), (1109 : Int), (1112 : Int), (1140 : Int), (1190 : Int), (1999 : Int)] (0 : Int) == c then true else bif el_i [(0 : Int), (1 : Int), (4 : Int), (28 : Int), (1024 : Int), (1025 : Int), (1104 : Int), (1106 : Int), (1107 : Int), (1109 : Int), (1112 : Int), (1140 : Int), (1190 : Int), (1999 : Int)] (IntKind.wrap IntKind.i64 ((0 : Int) + (1 : Int))) == c then true else bif el_i [(0 : Int), (1 : Int), (4 : Int), (28 : Int), (1024 : Int), (1025 : Int), (1104 : Int), (1106 : Int), (1107 : Int), (1109 : Int), (1112 : Int), (1140 : Int), (1190 : Int), (1999 : Int)] (IntKind.wrap IntKind.i64 (IntKind.wrap IntKind.i64 ((0 : Int) + (1 : Int)) + (1 : Int))) == c then true else bif el_i [(0 : Int), (1 : Int), (4 : Int), (28 : Int), (1024 : Int), (1025 : Int), (1104 : Int), (1106 : Int), (1107 : Int), (1109 : Int), (1112 : Int), (1140 : Int), (1190 : Int), (1999 : Int)] (IntKind.wrap IntKind.i64 (IntKind.wrap IntKind.i64 (IntKind.wrap IntKind.i64 ((0 : Int) + (1 : Int)) + (1 : Int)) + (1 : Int))) == c then true else bif el_i [(0 : Int), (1 : Int), (4 : Int), (28 : Int), (1024 : Int), (1025 : Int), (1104 : Int), (1106 : Int), (1107 : Int), (1109 : Int), (1112 : Int), (1140 : Int), (1190 : Int), (1999 : Int)] (IntKind.wrap IntKind.i64 (IntKind.wrap IntKind.i64 (IntKind.wrap IntKind.i64 (IntKind.wrap IntKind.i64 ((0 : Int) + (1 : Int)) + (1 : Int)) + (1 : Int)) + (1 : Int))) == c then true else bif el_i [(0 : Int), (1 : Int), (4 : Int), (28 : Int), (1024 : Int), (1025 : Int), (1104 : Int), (1106 : Int), (1107 : Int), (1109 : Int), (1112 : Int), (1140 : Int), (1190 : Int), (1999 : Int)] (IntKind.wrap IntKind.i64 (IntKind.wrap IntKind.i64 (IntKind.wrap IntKind.i64 (IntKind.wrap IntKind.i64 (IntKind.wrap IntKind.i64 ((0 : Int) + (1 : Int)) + (1 : Int)) + (1 : Int)) + (1 : Int)) + (1 : Int))) == c then true else bif el_i [(0 : Int), (1 : Int), (4 : Int), (28 : Int), (1024 : Int), (1025 : Int), (1104 : Int), (1106 : Int), (1107 : Int), (1109 : Int), (1112 : Int), (1140 : Int), (1190 : Int), (1999 : Int)] (IntKind.wrap IntKind.i64 (IntKind.wrap IntKind.i64 (IntKind.wrap IntKind.i64 (IntKind.wrap IntKind.i64 (IntKind.wrap IntKind.i64 (IntKind.wrap IntKind.i64 ((0 : Int) + (1 : Int)) + (1 : Int)) + (1 : Int)) + (1 : Int)) + (1 : Int)) + (1 : Int))) == c then true else bif el_i [(0 : Int), (1 : Int), (4 : Int), (28 : Int), (1024 : Int), (1025 : Int), (1104 : Int), (1106 : Int), (1107 : Int), (1109 : Int), (1112 : Int), (1140 : Int), (1190 : Int), (1999 : Int)] (IntKind.wrap IntKind.i64 (IntKind.wrap IntKind.i64 (IntKind.wrap IntKind.i64 (IntKind.wrap IntKind.i64 (IntKind.wrap IntKind.i64 (IntKind.wrap IntKind.i64 (IntKind.wrap IntKind.i64 ((0 : Int) + (1 : Int)) + (1 : Int)) + (1 : Int)) + (1 : Int)) + (1 : Int)) + (1 : Int)) + (1 : Int))) == c then true else bif el_i [(0 : Int), (1 : Int), (4 : Int), (28 : Int), (1024 : Int), (1025 : Int), (1104 : Int), (1106 : Int), (1107 : Int), (1109 : Int), (1112 : Int), (1140 : Int), (1190 : Int), (1999 : Int)] (IntKind.wrap IntKind.i64 (IntKind.wrap IntKind.i64 (IntKind.wrap IntKind.i64 (IntKind.wrap IntKind.i64 (IntKind.wrap IntKind.i64 (IntKind.wrap IntKind.i64 (IntKind.wrap IntKind.i64 (IntKind.wrap IntKind.i64 ((0 : Int) + (1 : Int)) + (1 : Int)) + (1 : Int)) + (1 : Int)) + (1 : Int)) + (1 : Int)) + (1 : Int)) + (1 : Int))) == c then true else bif el_i [(0 : Int), (1 : Int), (4 : Int), (28 : Int), (1024 : Int), (1025 : Int), (1104 : Int), (1106 : Int), (1107 : Int), (1109 : Int), (1112 : Int), (1140 : Int), (1190 : Int), (1999 : Int)] (IntKind.wrap IntKind.i64 (IntKind.wrap IntKind.i64 (IntKind.wrap IntKind.i64 (IntKind.wrap IntKind.i64 (IntKind.wrap IntKind.i64 (IntKind.wrap IntKind.i64 (IntKind.wrap IntKind.i64 (IntKind.wrap IntKind.i64 (IntKind.wrap IntKind.i64 ((0 : Int) + (1 : Int)) + (1 : Int)) + (1 : Int)) + (1 : Int)) + (1 : Int)) + (1 : Int)) + (1 : Int)) + (1 : Int)) + (1 : Int))) == c then true else bif el_i [(0 : Int), (1 : Int), (4 : Int), (28 : Int), (1024 : Int), (1025 : Int), (1104 : Int), (1106 : Int), (1107 : Int), (1109 : Int), (1112 : Int), (1140 : Int), (1190 : Int), (1999 : Int)] (IntKind.wrap IntKind.i64 (IntKind.wrap IntKind.i64 (IntKind.wrap IntKind.i64 (IntKind.wrap IntKind.i64 (IntKind.wrap IntKind.i64 (IntKind.wrap IntKind.i64 (IntKind.wrap IntKind.i64 (IntKind.wrap IntKind.i64 (IntKind.wrap IntKind.i64 (IntKind.wrap IntKind.i64 ((0 : Int) + (1 : Int)) + (1 : Int)) + (1 : Int)) + (1 : Int)) + (1 : Int)) + (1 : Int)) + (1 : Int)) + (1 : Int)) + (1 : Int)) + (1 : Int))) == c then true else bif el_i [(0 : Int), (1 : Int), (4 : Int), (28 : Int), (1024 : Int), (1025 : Int), (1104 : Int), (1106 : Int), (1107 : Int), (1109 : Int), (1112 : Int), (1140 : Int), (1190 : Int), (1999 : Int)] (IntKind.wrap IntKind.i64 (IntKind.wrap IntKind.i64 (IntKind.wrap IntKind.i64 (IntKind.wrap IntKind.i64 (IntKind.wrap IntKind.i64 (IntKind.wrap IntKind.i64 (IntKind.wrap IntKind.i64 (IntKind.wrap IntKind.i64 (IntKind.wrap IntKind.i64 (IntKind.wrap IntKind.i64 (IntKind.wrap IntKind.i64 ((0 : Int) + (1 : Int)) + (1 : Int)) + (1 : Int)) + (1 : Int)) + (1 : Int)) + (1 : Int)) + (1 : Int)) + (1 : Int)) + (1 : Int)) + (1 : Int)) + (1 : Int))) == c then true else bif el_i [(0 : Int), (1 : Int), (4 : Int), (28 : Int), (1024 : Int), (1025 : Int), (1104 : Int), (1106 : Int), (1107 : Int), (1109 : Int), (1112 : Int), (1140 : Int), (1190 : Int), (1999 : Int)] (IntKind.wrap IntKind.i64 (IntKind.wrap IntKind.i64 (IntKind.wrap IntKind.i64 (IntKind.wrap IntKind.i64 (IntKind.wrap IntKind.i64 (IntKind.wrap IntKind.i64 (IntKind.wrap IntKind.i64 (IntKind.wrap IntKind.i64 (IntKind.wrap IntKind.i64 (IntKind.wrap IntKind.i64 (IntKind.wrap IntKind.i64 (IntKind.wrap IntKind.i64 ((0 : Int) + (1 : Int)) + (1 : Int)) + (1 : Int)) + (1 : Int)) + (1 : Int)) + (1 : Int)) + (1 : Int)) + (1 : Int)) + (1 : Int)) + (1 : Int)) + (1 : Int)) + (1 : Int))) == c then true else bif el_i [(0 : Int), (1 : Int), (4 : Int), (28 : Int), (1024 : Int), (1025 : Int), (1104 : Int), (1106 : Int), (1107 : Int), (1109 : Int), (1112 : Int), (1140 : Int), (1190 : Int), (1999 : Int)] (IntKind.wrap IntKind.i64 (IntKind.wrap IntKind.i64 (IntKind.wrap IntKind.i64 (IntKind.wrap IntKind.i64 (IntKind.wrap IntKind.i64 (IntKind.wrap IntKind.i64 (IntKind.wrap IntKind.i64 (IntKind.wrap IntKind.i64 (IntKind.wrap IntKind.i64 (IntKind.wrap IntKind.i64 (IntKind.wrap IntKind.i64 (IntKind.wrap IntKind.i64 (IntKind.wrap IntKind.i64 ((0 : Int) + (1 : Int)) + (1 : Int)) + (1 : Int)) + (1 : Int)) + (1 : Int)) + (1 : Int)) + (1 : Int)) + (1 : Int)) + (1 : Int)) + (1 : Int)) + (1 : Int)) + (1 : Int)) + (1 : Int))) == c then true else false)))) : Tr AV).val = some (.one (.v false (.bool (knw c)))) := by
  have e : knw c = (bif (0 : Int) == c then true else bif (1 : Int) == c then true else bif (4 : Int) == c then true else bif (28 : Int) == c then true else bif (1024 : Int) == c then true else bif (1025 : Int) == c then true else bif (1104 : Int) == c then true else bif (1106 : Int) == c then true else bif (1107 : Int) == c then true else bif (1109 : Int) == c then true else bif (1112 : Int) == c then true else bif (1140 : Int) == c then true else bif (1190 : Int) == c then true else bif (1999 : Int) == c then true else false) := by
    unfold knw
    rw [Bool.eq_iff_iff]
    simp only [Bool.cond_eq_ite, beq_iff_eq]
    constructor
    · intro h
      simp at h ⊢
      omega
    · intro h
      simp at h ⊢
      omega
  rw [e]; rfl
def knc_g : List AV → Option (Tr AV)
  | [.one (.v _ (.int .i64 c))] => some (.ret (.one (.v false (.bool (knw c)))))
  | _ => none
set_option maxHeartbeats 4000000 in
theorem knc_ok : FunOK Tryd.prog 17 knc_g := by
  refine fun_ok (by kernel_rfl) (gcA_S3_ok) (L0_ok _) 9 (On := (opens [])) (fun args t h => ?_)
  unfold knc_g at h
  split at h
  · rename_i _ c
    simp only [Option.some.injEq] at h
    subst h
    refine ⟨[.one (.v false (.int .i64 c))], rfl, fun fr w us h => h, fun r hr => ?_⟩
    simp only [Tr.val, Option.some.injEq] at hr
    subst hr
    rw [knc_tree]
    exact knc_val c
  · cases h
def gcA_S4 : Sums := addS 17 knc_g gcA_S3
theorem gcA_S4_ok : SumOK Tryd.prog gcA_S4 := addS_ok (knc_ok) (gcA_S3_ok)
set_option maxRecDepth 100000 in
theorem alc_tree (c : Int) : evalF Tryd.prog gcA_S4 (opens []) L0 9 18 [.one (.v false (.int .i64 c))] = .ret (.one (.v false (.int .i64 (bif c == (0 : Int) then (23 : Int) else bif c == (1 : Int) then (31 : Int) else bif c == (4 : Int) then (32 : Int) else bif c == (1104 : Int) then (32 : Int) else bif c == (1109 : Int) then (32 : Int) else bif c == (1140 : Int) then (32 : Int) else bif c == (1190 : Int) then (32 : Int) else bif c == (1106 : Int) then (32 : Int) else (0 : Int))))) := by kernel_rfl
set_option maxHeartbeats 4000000 in
theorem alc_val (c : Int) : (.ret (.one (.v false (.int .i64 (bif c == (0 : Int) then (23 : Int) else bif c == (1 : Int) then (31 : Int) else bif c == (4 : Int) then (32 : Int) else bif c == (1104 : Int) then (32 : Int) else bif c == (1109 : Int) then (32 : Int) else bif c == (1140 : Int) then (32 : Int) else bif c == (1190 : Int) then (32 : Int) else bif c == (1106 : Int) then (32 : Int) else (0 : Int))))) : Tr AV).val = some (.one (.v false (.int .i64 (alw c)))) := by
  rfl
def alc_g : List AV → Option (Tr AV)
  | [.one (.v _ (.int .i64 c))] => some (.ret (.one (.v false (.int .i64 (alw c)))))
  | _ => none
set_option maxHeartbeats 4000000 in
theorem alc_ok : FunOK Tryd.prog 18 alc_g := by
  refine fun_ok (by kernel_rfl) (gcA_S4_ok) (L0_ok _) 9 (On := (opens [])) (fun args t h => ?_)
  unfold alc_g at h
  split at h
  · rename_i _ c
    simp only [Option.some.injEq] at h
    subst h
    refine ⟨[.one (.v false (.int .i64 c))], rfl, fun fr w us h => h, fun r hr => ?_⟩
    simp only [Tr.val, Option.some.injEq] at hr
    subst hr
    rw [alc_tree]
    exact alc_val c
  · cases h
def gcA_S5 : Sums := addS 18 alc_g gcA_S4
theorem gcA_S5_ok : SumOK Tryd.prog gcA_S5 := addS_ok (alc_ok) (gcA_S4_ok)
set_option maxRecDepth 100000 in
theorem rgc_tree (c : Int) (k : Int) (n : Int) : evalF Tryd.prog gcA_S5 (opens []) L0 9 21 [.one (.v false (.int .i64 c)), .one (.v false (.int .i64 k)), .one (.v false (.int .i64 n))] = .ret (.one (.v false (.bool (bif decide (k < (4 : Int)) then bif decide (n ≥ (-1073741824 : Int)) then decide (n ≤ (1073741824 : Int)) else false else bif k == (4 : Int) then bif decide (n ≥ (1 : Int)) then decide (n ≤ (1048576 : Int)) else false else bif c == (4 : Int) then bif decide (n ≥ (0 : Int)) then decide (n ≤ (1048576 : Int)) else false else bif c == (1106 : Int) then bif decide (n ≥ (0 : Int)) then decide (n ≤ (255 : Int)) else false else bif decide (n ≥ (0 : Int)) then decide (n ≤ (400000 : Int)) else false)))) := by kernel_rfl
theorem rgc_val (c : Int) (k : Int) (n : Int) (hc : (decide (0 ≤ k) && decide (k ≤ 5)) = true) : (.ret (.one (.v false (.bool (bif decide (k < (4 : Int)) then bif decide (n ≥ (-1073741824 : Int)) then decide (n ≤ (1073741824 : Int)) else false else bif k == (4 : Int) then bif decide (n ≥ (1 : Int)) then decide (n ≤ (1048576 : Int)) else false else bif c == (4 : Int) then bif decide (n ≥ (0 : Int)) then decide (n ≤ (1048576 : Int)) else false else bif c == (1106 : Int) then bif decide (n ≥ (0 : Int)) then decide (n ≤ (255 : Int)) else false else bif decide (n ≥ (0 : Int)) then decide (n ≤ (400000 : Int)) else false)))) : Tr AV).val = some (.one (.v false (.bool (rngB c k n)))) := by
  unfold rngB lowB highB
  have h1 := of_decide_eq_true (Bool.and_eq_true _ _ ▸ hc).1
  have h2 := of_decide_eq_true (Bool.and_eq_true _ _ ▸ hc).2
  obtain rfl | rfl | rfl | rfl | rfl | rfl : k = 0 ∨ k = 1 ∨ k = 2 ∨ k = 3 ∨ k = 4 ∨ k = 5 := by omega
  all_goals cases c == 4 <;> cases c == 1106 <;> rfl
def rgc_g : List AV → Option (Tr AV)
  | [.one (.v _ (.int .i64 c)), .one (.v _ (.int .i64 k)), .one (.v _ (.int .i64 n))] => some (.br (decide (0 ≤ k) && decide (k ≤ 5)) (.ret (.one (.v false (.bool (rngB c k n))))) (.bad 900))
  | _ => none
set_option maxHeartbeats 4000000 in
theorem rgc_ok : FunOK Tryd.prog 21 rgc_g := by
  refine fun_ok (by kernel_rfl) (gcA_S5_ok) (L0_ok _) 9 (On := (opens [])) (fun args t h => ?_)
  unfold rgc_g at h
  split at h
  · rename_i _ c _ k _ n
    simp only [Option.some.injEq] at h
    subst h
    refine ⟨[.one (.v false (.int .i64 c)), .one (.v false (.int .i64 k)), .one (.v false (.int .i64 n))], rfl, fun fr w us h => h, fun r hr => ?_⟩
    obtain ⟨hc, hr⟩ := br_bad hr
    simp only [Tr.val, Option.some.injEq] at hr
    subst hr
    rw [rgc_tree]
    exact rgc_val c k n hc
  · cases h
def gcA_S6 : Sums := addS 21 rgc_g gcA_S5
theorem gcA_S6_ok : SumOK Tryd.prog gcA_S6 := addS_ok (rgc_ok) (gcA_S5_ok)
def bwo (a b : Int) : Bool := IntKind.wrap IntKind.i64 (((BitVec.toNat (BitVec.ofInt (IntKind.bits IntKind.i64) b &&& ~~~BitVec.ofInt (IntKind.bits IntKind.i64) (alw a)) : Nat)) : Int) == (0 : Int)
def wok (a b k n : Int) : Bool := bif hsB b k then rngB a k n else n == (0 : Int)
def vld (a b x y z e f s : Int) : Bool := knw a && (bwo a b && (alw a != 32 || b == 32)) && (wok a b 0 x && (wok a b 1 y && (wok a b 2 z && (wok a b 3 e && (wok a b 4 f && wok a b 5 s)))))
def inI (b : Int) : Bool := decide (-9223372036854775808 ≤ b) && decide (b ≤ 9223372036854775807)
theorem wokC (a b k n : Int) : (bif bif hsB b k then bif decide (n < lowB a k) then true else decide (n > highB a k) else false then true else bif !hsB b k then n != (0 : Int) else false) = !wok a b k n := by
  unfold wok rngB
  cases hsB b k
  · cases h : n == (0 : Int) <;> simp [bne, h]
  · by_cases h1 : n < lowB a k <;> by_cases h2 : n > highB a k <;> simp [h1, h2] <;> omega
theorem wokR (H R : Bool) (n : Int) : (bif bif H then !R else false then true else bif !H then n != (0 : Int) else false) = !(bif H then R else n == (0 : Int)) := by
  cases H <;> cases R <;> cases h : n == (0 : Int) <;> simp [bne, h]
theorem alw_le (a : Int) : ∃ m : Nat, alw a = (m : Int) ∧ m ≤ 32 ∧ rqd a = (bif alw a == 32 then 32 else 0) := by
  have h : alw a = 23 ∧ rqd a = 0 ∨ alw a = 31 ∧ rqd a = 0 ∨ alw a = 32 ∧ rqd a = 32 ∨ alw a = 0 ∧ rqd a = 0 := by
    unfold alw rqd
    cases a == 0; rotate_left; simp
    cases a == 1; rotate_left; simp
    cases a == 4; rotate_left; simp
    cases a == 1104; rotate_left; simp
    cases a == 1109; rotate_left; simp
    cases a == 1140; rotate_left; simp
    cases a == 1190; rotate_left; simp
    cases a == 1106 <;> simp
  rcases h with ⟨h, g⟩ | ⟨h, g⟩ | ⟨h, g⟩ | ⟨h, g⟩
  · exact ⟨23, h, by omega, by rw [h, g]; rfl⟩
  · exact ⟨31, h, by omega, by rw [h, g]; rfl⟩
  · exact ⟨32, h, by omega, by rw [h, g]; rfl⟩
  · exact ⟨0, h, by omega, by rw [h, g]; rfl⟩
theorem bwo_le {a b : Int} (hb : inI b = true) (h : bwo a b = true) : 0 ≤ b ∧ b ≤ 32 := by
  obtain ⟨m, e, hm, _⟩ := alw_le a
  unfold bwo at h
  rw [e] at h
  have h := beq_iff_eq.1 h
  have h0 : -9223372036854775808 ≤ b := of_decide_eq_true (Bool.and_eq_true _ _ ▸ hb).1
  have h1 : b ≤ 9223372036854775807 := of_decide_eq_true (Bool.and_eq_true _ _ ▸ hb).2
  have hz : (BitVec.ofInt 64 b &&& ~~~BitVec.ofNat 64 m).toNat = 0 := by
    have e2 : BitVec.ofInt 64 (m : Int) = BitVec.ofNat 64 m := BitVec.ofInt_natCast 64 m
    have h : IntKind.wrap IntKind.i64 (((BitVec.toNat (BitVec.ofInt 64 b &&& ~~~BitVec.ofInt 64 (m : Int)) : Nat)) : Int) = 0 := h
    rw [e2] at h
    generalize hv : (BitVec.ofInt 64 b &&& ~~~BitVec.ofNat 64 m).toNat = v at h
    have lt : v < 18446744073709551616 := by rw [← hv]; exact BitVec.isLt _
    rw [IntKind.wrap_i64] at h
    omega
  have l := bits_le (x := b) (m := m) (by omega) hz
  rw [BitVec.toNat_ofInt] at l
  have : (b % ((2 ^ 64 : Nat) : Int)).toNat = (b % 18446744073709551616).toNat := rfl
  rw [this] at l
  omega
def t32 (n : Nat) : Bool := !(IntKind.wrap IntKind.i64 (((BitVec.toNat (BitVec.ofInt (IntKind.bits IntKind.i64) (n : Int) &&& ~~~BitVec.ofInt (IntKind.bits IntKind.i64) 32) : Nat)) : Int) == (0 : Int)) || ((IntKind.wrap IntKind.i64 (((BitVec.toNat (BitVec.ofInt (IntKind.bits IntKind.i64) 32 &&& ~~~BitVec.ofInt (IntKind.bits IntKind.i64) (n : Int)) : Nat)) : Int) != (0 : Int)) == !((n : Int) == 32))
theorem all32 : (List.range 33).all t32 = true := by kernel_rfl
theorem q32 {n : Nat} (h : n < 33) (h2 : (IntKind.wrap IntKind.i64 (((BitVec.toNat (BitVec.ofInt (IntKind.bits IntKind.i64) (n : Int) &&& ~~~BitVec.ofInt (IntKind.bits IntKind.i64) 32) : Nat)) : Int) == (0 : Int)) = true) : (IntKind.wrap IntKind.i64 (((BitVec.toNat (BitVec.ofInt (IntKind.bits IntKind.i64) 32 &&& ~~~BitVec.ofInt (IntKind.bits IntKind.i64) (n : Int)) : Nat)) : Int) != (0 : Int)) = !((n : Int) == 32) := by
  have := List.all_eq_true.1 all32 n (List.mem_range.2 h)
  unfold t32 at this
  rw [h2, Bool.not_true, Bool.false_or] at this
  exact beq_iff_eq.1 this
theorem reqC {a b : Int} (hb : inI b = true) (h : bwo a b = true) : (IntKind.wrap IntKind.i64 (((BitVec.toNat (BitVec.ofInt (IntKind.bits IntKind.i64) (rqd a) &&& ~~~BitVec.ofInt (IntKind.bits IntKind.i64) b) : Nat)) : Int) != (0 : Int)) = !(alw a != 32 || b == 32) := by
  obtain ⟨m, e, hm, r⟩ := alw_le a
  obtain ⟨b0, b1⟩ := bwo_le hb h
  rw [r]
  by_cases q : alw a = 32
  · unfold bwo at h
    rw [q] at h ⊢
    obtain ⟨n, rfl⟩ : ∃ n : Nat, b = (n : Int) := ⟨b.toNat, by omega⟩
    have := q32 (n := n) (by omega) h
    rw [show ((32 : Int) == 32) = true from rfl, cond_true, this]
    rfl
  · have q1 : (alw a == 32) = false := by rw [beq_eq_false_iff_ne]; exact q
    rw [show (alw a != 32) = true by rw [bne, q1]; rfl, q1, cond_false]
    have : (0#64 &&& ~~~BitVec.ofInt 64 b) = 0#64 := BitVec.zero_and
    show (IntKind.wrap IntKind.i64 (((BitVec.toNat (0#64 &&& ~~~BitVec.ofInt 64 b) : Nat)) : Int) != (0 : Int)) = _
    rw [this]
    rfl
set_option maxRecDepth 100000 in
theorem vlc_tree (a : Int) (b : Int) (x : Int) (y : Int) (z : Int) (e : Int) (f : Int) (s : Int) : evalF Tryd.prog gcA_S6 (opens []) L0 9 7 [.ag [.v false (.int .i64 a), .v false (.int .i64 b), .v false (.int .i64 x), .v false (.int .i64 y), .v false (.int .i64 z), .v false (.int .i64 e), .v false (.int .i64 f), .v false (.int .i64 s)]] = .br ((bif bif bif !knw a then true else IntKind.wrap IntKind.i64 (↑(BitVec.toNat (BitVec.ofInt (IntKind.bits IntKind.i64) b &&& ~~~BitVec.ofInt (IntKind.bits IntKind.i64) (alw a))) : Int) != (0 : Int) then true else IntKind.wrap IntKind.i64 (↑(BitVec.toNat (BitVec.ofInt (IntKind.bits IntKind.i64) (rqd a) &&& ~~~BitVec.ofInt (IntKind.bits IntKind.i64) b)) : Int) != (0 : Int) then true else ((true) && (((bif bif hsB b (0 : Int) then bif decide (x < lowB a (0 : Int)) then true else decide (x > highB a (0 : Int)) else false then true else (true))) && (bif bif bif hsB b (0 : Int) then bif decide (x < lowB a (0 : Int)) then true else decide (x > highB a (0 : Int)) else false then true else bif !hsB b (0 : Int) then x != (0 : Int) else false then true else ((true) && (((bif bif hsB b (1 : Int) then bif decide (y < lowB a (1 : Int)) then true else decide (y > highB a (1 : Int)) else false then true else (true))) && (bif bif bif hsB b (1 : Int) then bif decide (y < lowB a (1 : Int)) then true else decide (y > highB a (1 : Int)) else false then true else bif !hsB b (1 : Int) then y != (0 : Int) else false then true else ((true) && (((bif bif hsB b (2 : Int) then bif decide (z < lowB a (2 : Int)) then true else decide (z > highB a (2 : Int)) else false then true else (true))) && (bif bif bif hsB b (2 : Int) then bif decide (z < lowB a (2 : Int)) then true else decide (z > highB a (2 : Int)) else false then true else bif !hsB b (2 : Int) then z != (0 : Int) else false then true else ((true) && (((bif bif hsB b (3 : Int) then bif decide (e < lowB a (3 : Int)) then true else decide (e > highB a (3 : Int)) else false then true else (true))) && (bif bif bif hsB b (3 : Int) then bif decide (e < lowB a (3 : Int)) then true else decide (e > highB a (3 : Int)) else false then true else bif !hsB b (3 : Int) then e != (0 : Int) else false then true else ((true) && (((bif bif hsB b (4 : Int) then bif decide (f < lowB a (4 : Int)) then true else decide (f > highB a (4 : Int)) else false then true else (true))) && (bif bif bif hsB b (4 : Int) then bif decide (f < lowB a (4 : Int)) then true else decide (f > highB a (4 : Int)) else false then true else bif !hsB b (4 : Int) then f != (0 : Int) else false then true else ((true) && ((bif bif hsB b (5 : Int) then bif decide (s < lowB a (5 : Int)) then true else decide (s > highB a (5 : Int)) else false then true else (true))))))))))))))))))))) (.ret (.one (.v false (.bool (bif bif bif !knw a then true else IntKind.wrap IntKind.i64 (↑(BitVec.toNat (BitVec.ofInt (IntKind.bits IntKind.i64) b &&& ~~~BitVec.ofInt (IntKind.bits IntKind.i64) (alw a))) : Int) != (0 : Int) then true else IntKind.wrap IntKind.i64 (↑(BitVec.toNat (BitVec.ofInt (IntKind.bits IntKind.i64) (rqd a) &&& ~~~BitVec.ofInt (IntKind.bits IntKind.i64) b)) : Int) != (0 : Int) then false else bif bif bif hsB b (0 : Int) then bif decide (x < lowB a (0 : Int)) then true else decide (x > highB a (0 : Int)) else false then true else bif !hsB b (0 : Int) then x != (0 : Int) else false then false else bif bif bif hsB b (1 : Int) then bif decide (y < lowB a (1 : Int)) then true else decide (y > highB a (1 : Int)) else false then true else bif !hsB b (1 : Int) then y != (0 : Int) else false then false else bif bif bif hsB b (2 : Int) then bif decide (z < lowB a (2 : Int)) then true else decide (z > highB a (2 : Int)) else false then true else bif !hsB b (2 : Int) then z != (0 : Int) else false then false else bif bif bif hsB b (3 : Int) then bif decide (e < lowB a (3 : Int)) then true else decide (e > highB a (3 : Int)) else false then true else bif !hsB b (3 : Int) then e != (0 : Int) else false then false else bif bif bif hsB b (4 : Int) then bif decide (f < lowB a (4 : Int)) then true else decide (f > highB a (4 : Int)) else false then true else bif !hsB b (4 : Int) then f != (0 : Int) else false then false else bif bif bif hsB b (5 : Int) then bif decide (s < lowB a (5 : Int)) then true else decide (s > highB a (5 : Int)) else false then true else bif !hsB b (5 : Int) then s != (0 : Int) else false then false else true))))) (.bad 116) := by kernel_rfl
theorem vlc_val (a : Int) (b : Int) (x : Int) (y : Int) (z : Int) (e : Int) (f : Int) (s : Int) (hc : (inI b) = true) : (.br ((bif bif bif !knw a then true else IntKind.wrap IntKind.i64 (↑(BitVec.toNat (BitVec.ofInt (IntKind.bits IntKind.i64) b &&& ~~~BitVec.ofInt (IntKind.bits IntKind.i64) (alw a))) : Int) != (0 : Int) then true else IntKind.wrap IntKind.i64 (↑(BitVec.toNat (BitVec.ofInt (IntKind.bits IntKind.i64) (rqd a) &&& ~~~BitVec.ofInt (IntKind.bits IntKind.i64) b)) : Int) != (0 : Int) then true else ((true) && (((bif bif hsB b (0 : Int) then bif decide (x < lowB a (0 : Int)) then true else decide (x > highB a (0 : Int)) else false then true else (true))) && (bif bif bif hsB b (0 : Int) then bif decide (x < lowB a (0 : Int)) then true else decide (x > highB a (0 : Int)) else false then true else bif !hsB b (0 : Int) then x != (0 : Int) else false then true else ((true) && (((bif bif hsB b (1 : Int) then bif decide (y < lowB a (1 : Int)) then true else decide (y > highB a (1 : Int)) else false then true else (true))) && (bif bif bif hsB b (1 : Int) then bif decide (y < lowB a (1 : Int)) then true else decide (y > highB a (1 : Int)) else false then true else bif !hsB b (1 : Int) then y != (0 : Int) else false then true else ((true) && (((bif bif hsB b (2 : Int) then bif decide (z < lowB a (2 : Int)) then true else decide (z > highB a (2 : Int)) else false then true else (true))) && (bif bif bif hsB b (2 : Int) then bif decide (z < lowB a (2 : Int)) then true else decide (z > highB a (2 : Int)) else false then true else bif !hsB b (2 : Int) then z != (0 : Int) else false then true else ((true) && (((bif bif hsB b (3 : Int) then bif decide (e < lowB a (3 : Int)) then true else decide (e > highB a (3 : Int)) else false then true else (true))) && (bif bif bif hsB b (3 : Int) then bif decide (e < lowB a (3 : Int)) then true else decide (e > highB a (3 : Int)) else false then true else bif !hsB b (3 : Int) then e != (0 : Int) else false then true else ((true) && (((bif bif hsB b (4 : Int) then bif decide (f < lowB a (4 : Int)) then true else decide (f > highB a (4 : Int)) else false then true else (true))) && (bif bif bif hsB b (4 : Int) then bif decide (f < lowB a (4 : Int)) then true else decide (f > highB a (4 : Int)) else false then true else bif !hsB b (4 : Int) then f != (0 : Int) else false then true else ((true) && ((bif bif hsB b (5 : Int) then bif decide (s < lowB a (5 : Int)) then true else decide (s > highB a (5 : Int)) else false then true else (true))))))))))))))))))))) (.ret (.one (.v false (.bool (bif bif bif !knw a then true else IntKind.wrap IntKind.i64 (↑(BitVec.toNat (BitVec.ofInt (IntKind.bits IntKind.i64) b &&& ~~~BitVec.ofInt (IntKind.bits IntKind.i64) (alw a))) : Int) != (0 : Int) then true else IntKind.wrap IntKind.i64 (↑(BitVec.toNat (BitVec.ofInt (IntKind.bits IntKind.i64) (rqd a) &&& ~~~BitVec.ofInt (IntKind.bits IntKind.i64) b)) : Int) != (0 : Int) then false else bif bif bif hsB b (0 : Int) then bif decide (x < lowB a (0 : Int)) then true else decide (x > highB a (0 : Int)) else false then true else bif !hsB b (0 : Int) then x != (0 : Int) else false then false else bif bif bif hsB b (1 : Int) then bif decide (y < lowB a (1 : Int)) then true else decide (y > highB a (1 : Int)) else false then true else bif !hsB b (1 : Int) then y != (0 : Int) else false then false else bif bif bif hsB b (2 : Int) then bif decide (z < lowB a (2 : Int)) then true else decide (z > highB a (2 : Int)) else false then true else bif !hsB b (2 : Int) then z != (0 : Int) else false then false else bif bif bif hsB b (3 : Int) then bif decide (e < lowB a (3 : Int)) then true else decide (e > highB a (3 : Int)) else false then true else bif !hsB b (3 : Int) then e != (0 : Int) else false then false else bif bif bif hsB b (4 : Int) then bif decide (f < lowB a (4 : Int)) then true else decide (f > highB a (4 : Int)) else false then true else bif !hsB b (4 : Int) then f != (0 : Int) else false then false else bif bif bif hsB b (5 : Int) then bif decide (s < lowB a (5 : Int)) then true else decide (s > highB a (5 : Int)) else false then true else bif !hsB b (5 : Int) then s != (0 : Int) else false then false else true))))) (.bad 116) : Tr AV).val = some (.one (.v false (.bool (vld a b x y z e f s)))) := by
  have hx : (IntKind.wrap IntKind.i64 (((BitVec.toNat (BitVec.ofInt (IntKind.bits IntKind.i64) b &&& ~~~BitVec.ofInt (IntKind.bits IntKind.i64) (alw a)) : Nat)) : Int) != (0 : Int)) = !bwo a b := rfl
  have hr := @reqC a b hc
  simp only [wokC, hx, Bool.cond_self, Bool.and_self, Bool.true_and]
  unfold vld
  generalize wok a b 0 x = t0
  generalize wok a b 1 y = t1
  generalize wok a b 2 z = t2
  generalize wok a b 3 e = t3
  generalize wok a b 4 f = t4
  generalize wok a b 5 s = t5
  simp only [Tr.val, cond_true]
  cases knw a
  · rfl
  · cases hq : bwo a b
    · rfl
    · rw [hr hq]
      cases (alw a != 32 || b == 32) <;> cases t0 <;> cases t1 <;> cases t2 <;> cases t3 <;> cases t4 <;> cases t5 <;> rfl
def vlc_g : List AV → Option (Tr AV)
  | [.ag [.v _ (.int .i64 a), .v _ (.int .i64 b), .v _ (.int .i64 x), .v _ (.int .i64 y), .v _ (.int .i64 z), .v _ (.int .i64 e), .v _ (.int .i64 f), .v _ (.int .i64 s)]] => some (.br (inI b) (.ret (.one (.v false (.bool (vld a b x y z e f s))))) (.bad 900))
  | _ => none
set_option maxHeartbeats 4000000 in
theorem vlc_ok : FunOK Tryd.prog 7 vlc_g := by
  refine fun_ok (by kernel_rfl) (gcA_S6_ok) (L0_ok _) 9 (On := (opens [])) (fun args t h => ?_)
  unfold vlc_g at h
  split at h
  · rename_i _ a _ b _ x _ y _ z _ e _ f _ s
    simp only [Option.some.injEq] at h
    subst h
    refine ⟨[.ag [.v false (.int .i64 a), .v false (.int .i64 b), .v false (.int .i64 x), .v false (.int .i64 y), .v false (.int .i64 z), .v false (.int .i64 e), .v false (.int .i64 f), .v false (.int .i64 s)]], rfl, fun fr w us h => h, fun r hr => ?_⟩
    obtain ⟨hc, hr⟩ := br_bad hr
    simp only [Tr.val, Option.some.injEq] at hr
    subst hr
    rw [vlc_tree]
    exact vlc_val a b x y z e f s hc
  · cases h
def gcA_S7 : Sums := addS 7 vlc_g gcA_S6
theorem gcA_S7_ok : SumOK Tryd.prog gcA_S7 := addS_ok (vlc_ok) (gcA_S6_ok)
theorem wokS (a b k n : Int) : (bif IntKind.wrap IntKind.i64 ((BitVec.toNat (BitVec.ofInt (IntKind.bits IntKind.i64) (Int.fdiv b ((2 : Int) ^ min (Int.toNat k) (IntKind.bits IntKind.i64))) &&& BitVec.ofInt (IntKind.bits IntKind.i64) (1 : Int)) : Nat) : Int) == (1 : Int) then rngB a k n else n == (0 : Int)) = wok a b k n := rfl
set_option maxRecDepth 100000 in
theorem vlr_tree (a : Int) (b : Int) (x : Int) (y : Int) (z : Int) (e : Int) (f : Int) (s : Int) : evalF Tryd.prog gcA_S7 (opens []) L0 9 8 [.ag [.v false (.int .i64 a), .v false (.int .i64 b), .v false (.int .i64 x), .v false (.int .i64 y), .v false (.int .i64 z), .v false (.int .i64 e), .v false (.int .i64 f), .v false (.int .i64 s)]] = .br ((bif bif bif bif !knw a then true else decide (b < (0 : Int)) then true else IntKind.wrap IntKind.i64 (↑(BitVec.toNat (BitVec.ofInt (IntKind.bits IntKind.i64) b &&& ~~~BitVec.ofInt (IntKind.bits IntKind.i64) (alw a))) : Int) != (0 : Int) then true else !bif alw a != (32 : Int) then true else b == (32 : Int) then true else (((bif IntKind.wrap IntKind.i64 (↑(BitVec.toNat (BitVec.ofInt (IntKind.bits IntKind.i64) (Int.fdiv b ((2 : Int) ^ min (Int.toNat (0 : Int)) (IntKind.bits IntKind.i64))) &&& BitVec.ofInt (IntKind.bits IntKind.i64) (1 : Int))) : Int) == (1 : Int) then (true) else true)) && (bif bif bif IntKind.wrap IntKind.i64 (↑(BitVec.toNat (BitVec.ofInt (IntKind.bits IntKind.i64) (Int.fdiv b ((2 : Int) ^ min (Int.toNat (0 : Int)) (IntKind.bits IntKind.i64))) &&& BitVec.ofInt (IntKind.bits IntKind.i64) (1 : Int))) : Int) == (1 : Int) then !rngB a (0 : Int) (x) else false then true else bif !IntKind.wrap IntKind.i64 (↑(BitVec.toNat (BitVec.ofInt (IntKind.bits IntKind.i64) (Int.fdiv b ((2 : Int) ^ min (Int.toNat (0 : Int)) (IntKind.bits IntKind.i64))) &&& BitVec.ofInt (IntKind.bits IntKind.i64) (1 : Int))) : Int) == (1 : Int) then x != (0 : Int) else false then true else (((bif IntKind.wrap IntKind.i64 (↑(BitVec.toNat (BitVec.ofInt (IntKind.bits IntKind.i64) (Int.fdiv b ((2 : Int) ^ min (Int.toNat ((1 : Int))) (IntKind.bits IntKind.i64))) &&& BitVec.ofInt (IntKind.bits IntKind.i64) (1 : Int))) : Int) == (1 : Int) then (true) else true)) && (bif bif bif IntKind.wrap IntKind.i64 (↑(BitVec.toNat (BitVec.ofInt (IntKind.bits IntKind.i64) (Int.fdiv b ((2 : Int) ^ min (Int.toNat ((1 : Int))) (IntKind.bits IntKind.i64))) &&& BitVec.ofInt (IntKind.bits IntKind.i64) (1 : Int))) : Int) == (1 : Int) then !rngB a (1 : Int) (y) else false then true else bif !IntKind.wrap IntKind.i64 (↑(BitVec.toNat (BitVec.ofInt (IntKind.bits IntKind.i64) (Int.fdiv b ((2 : Int) ^ min (Int.toNat ((1 : Int))) (IntKind.bits IntKind.i64))) &&& BitVec.ofInt (IntKind.bits IntKind.i64) (1 : Int))) : Int) == (1 : Int) then y != (0 : Int) else false then true else (((bif IntKind.wrap IntKind.i64 (↑(BitVec.toNat (BitVec.ofInt (IntKind.bits IntKind.i64) (Int.fdiv b ((2 : Int) ^ min (Int.toNat ((2 : Int))) (IntKind.bits IntKind.i64))) &&& BitVec.ofInt (IntKind.bits IntKind.i64) (1 : Int))) : Int) == (1 : Int) then (true) else true)) && (bif bif bif IntKind.wrap IntKind.i64 (↑(BitVec.toNat (BitVec.ofInt (IntKind.bits IntKind.i64) (Int.fdiv b ((2 : Int) ^ min (Int.toNat ((2 : Int))) (IntKind.bits IntKind.i64))) &&& BitVec.ofInt (IntKind.bits IntKind.i64) (1 : Int))) : Int) == (1 : Int) then !rngB a (2 : Int) (z) else false then true else bif !IntKind.wrap IntKind.i64 (↑(BitVec.toNat (BitVec.ofInt (IntKind.bits IntKind.i64) (Int.fdiv b ((2 : Int) ^ min (Int.toNat ((2 : Int))) (IntKind.bits IntKind.i64))) &&& BitVec.ofInt (IntKind.bits IntKind.i64) (1 : Int))) : Int) == (1 : Int) then z != (0 : Int) else false then true else (((bif IntKind.wrap IntKind.i64 (↑(BitVec.toNat (BitVec.ofInt (IntKind.bits IntKind.i64) (Int.fdiv b ((2 : Int) ^ min (Int.toNat ((3 : Int))) (IntKind.bits IntKind.i64))) &&& BitVec.ofInt (IntKind.bits IntKind.i64) (1 : Int))) : Int) == (1 : Int) then (true) else true)) && (bif bif bif IntKind.wrap IntKind.i64 (↑(BitVec.toNat (BitVec.ofInt (IntKind.bits IntKind.i64) (Int.fdiv b ((2 : Int) ^ min (Int.toNat ((3 : Int))) (IntKind.bits IntKind.i64))) &&& BitVec.ofInt (IntKind.bits IntKind.i64) (1 : Int))) : Int) == (1 : Int) then !rngB a (3 : Int) (e) else false then true else bif !IntKind.wrap IntKind.i64 (↑(BitVec.toNat (BitVec.ofInt (IntKind.bits IntKind.i64) (Int.fdiv b ((2 : Int) ^ min (Int.toNat ((3 : Int))) (IntKind.bits IntKind.i64))) &&& BitVec.ofInt (IntKind.bits IntKind.i64) (1 : Int))) : Int) == (1 : Int) then e != (0 : Int) else false then true else (((bif IntKind.wrap IntKind.i64 (↑(BitVec.toNat (BitVec.ofInt (IntKind.bits IntKind.i64) (Int.fdiv b ((2 : Int) ^ min (Int.toNat ((4 : Int))) (IntKind.bits IntKind.i64))) &&& BitVec.ofInt (IntKind.bits IntKind.i64) (1 : Int))) : Int) == (1 : Int) then (true) else true)) && (bif bif bif IntKind.wrap IntKind.i64 (↑(BitVec.toNat (BitVec.ofInt (IntKind.bits IntKind.i64) (Int.fdiv b ((2 : Int) ^ min (Int.toNat ((4 : Int))) (IntKind.bits IntKind.i64))) &&& BitVec.ofInt (IntKind.bits IntKind.i64) (1 : Int))) : Int) == (1 : Int) then !rngB a (4 : Int) (f) else false then true else bif !IntKind.wrap IntKind.i64 (↑(BitVec.toNat (BitVec.ofInt (IntKind.bits IntKind.i64) (Int.fdiv b ((2 : Int) ^ min (Int.toNat ((4 : Int))) (IntKind.bits IntKind.i64))) &&& BitVec.ofInt (IntKind.bits IntKind.i64) (1 : Int))) : Int) == (1 : Int) then f != (0 : Int) else false then true else ((bif IntKind.wrap IntKind.i64 (↑(BitVec.toNat (BitVec.ofInt (IntKind.bits IntKind.i64) (Int.fdiv b ((2 : Int) ^ min (Int.toNat ((5 : Int))) (IntKind.bits IntKind.i64))) &&& BitVec.ofInt (IntKind.bits IntKind.i64) (1 : Int))) : Int) == (1 : Int) then (true) else true)))))))))))))) (.ret (.one (.v false (.bool (bif bif bif bif !knw a then true else decide (b < (0 : Int)) then true else IntKind.wrap IntKind.i64 (↑(BitVec.toNat (BitVec.ofInt (IntKind.bits IntKind.i64) b &&& ~~~BitVec.ofInt (IntKind.bits IntKind.i64) (alw a))) : Int) != (0 : Int) then true else !bif alw a != (32 : Int) then true else b == (32 : Int) then false else bif bif bif IntKind.wrap IntKind.i64 (↑(BitVec.toNat (BitVec.ofInt (IntKind.bits IntKind.i64) (Int.fdiv b ((2 : Int) ^ min (Int.toNat (0 : Int)) (IntKind.bits IntKind.i64))) &&& BitVec.ofInt (IntKind.bits IntKind.i64) (1 : Int))) : Int) == (1 : Int) then !rngB a (0 : Int) (x) else false then true else bif !IntKind.wrap IntKind.i64 (↑(BitVec.toNat (BitVec.ofInt (IntKind.bits IntKind.i64) (Int.fdiv b ((2 : Int) ^ min (Int.toNat (0 : Int)) (IntKind.bits IntKind.i64))) &&& BitVec.ofInt (IntKind.bits IntKind.i64) (1 : Int))) : Int) == (1 : Int) then x != (0 : Int) else false then false else bif bif bif IntKind.wrap IntKind.i64 (↑(BitVec.toNat (BitVec.ofInt (IntKind.bits IntKind.i64) (Int.fdiv b ((2 : Int) ^ min (Int.toNat ((1 : Int))) (IntKind.bits IntKind.i64))) &&& BitVec.ofInt (IntKind.bits IntKind.i64) (1 : Int))) : Int) == (1 : Int) then !rngB a (1 : Int) (y) else false then true else bif !IntKind.wrap IntKind.i64 (↑(BitVec.toNat (BitVec.ofInt (IntKind.bits IntKind.i64) (Int.fdiv b ((2 : Int) ^ min (Int.toNat ((1 : Int))) (IntKind.bits IntKind.i64))) &&& BitVec.ofInt (IntKind.bits IntKind.i64) (1 : Int))) : Int) == (1 : Int) then y != (0 : Int) else false then false else bif bif bif IntKind.wrap IntKind.i64 (↑(BitVec.toNat (BitVec.ofInt (IntKind.bits IntKind.i64) (Int.fdiv b ((2 : Int) ^ min (Int.toNat ((2 : Int))) (IntKind.bits IntKind.i64))) &&& BitVec.ofInt (IntKind.bits IntKind.i64) (1 : Int))) : Int) == (1 : Int) then !rngB a (2 : Int) (z) else false then true else bif !IntKind.wrap IntKind.i64 (↑(BitVec.toNat (BitVec.ofInt (IntKind.bits IntKind.i64) (Int.fdiv b ((2 : Int) ^ min (Int.toNat ((2 : Int))) (IntKind.bits IntKind.i64))) &&& BitVec.ofInt (IntKind.bits IntKind.i64) (1 : Int))) : Int) == (1 : Int) then z != (0 : Int) else false then false else bif bif bif IntKind.wrap IntKind.i64 (↑(BitVec.toNat (BitVec.ofInt (IntKind.bits IntKind.i64) (Int.fdiv b ((2 : Int) ^ min (Int.toNat ((3 : Int))) (IntKind.bits IntKind.i64))) &&& BitVec.ofInt (IntKind.bits IntKind.i64) (1 : Int))) : Int) == (1 : Int) then !rngB a (3 : Int) (e) else false then true else bif !IntKind.wrap IntKind.i64 (↑(BitVec.toNat (BitVec.ofInt (IntKind.bits IntKind.i64) (Int.fdiv b ((2 : Int) ^ min (Int.toNat ((3 : Int))) (IntKind.bits IntKind.i64))) &&& BitVec.ofInt (IntKind.bits IntKind.i64) (1 : Int))) : Int) == (1 : Int) then e != (0 : Int) else false then false else bif bif bif IntKind.wrap IntKind.i64 (↑(BitVec.toNat (BitVec.ofInt (IntKind.bits IntKind.i64) (Int.fdiv b ((2 : Int) ^ min (Int.toNat ((4 : Int))) (IntKind.bits IntKind.i64))) &&& BitVec.ofInt (IntKind.bits IntKind.i64) (1 : Int))) : Int) == (1 : Int) then !rngB a (4 : Int) (f) else false then true else bif !IntKind.wrap IntKind.i64 (↑(BitVec.toNat (BitVec.ofInt (IntKind.bits IntKind.i64) (Int.fdiv b ((2 : Int) ^ min (Int.toNat ((4 : Int))) (IntKind.bits IntKind.i64))) &&& BitVec.ofInt (IntKind.bits IntKind.i64) (1 : Int))) : Int) == (1 : Int) then f != (0 : Int) else false then false else bif bif bif IntKind.wrap IntKind.i64 (↑(BitVec.toNat (BitVec.ofInt (IntKind.bits IntKind.i64) (Int.fdiv b ((2 : Int) ^ min (Int.toNat ((5 : Int))) (IntKind.bits IntKind.i64))) &&& BitVec.ofInt (IntKind.bits IntKind.i64) (1 : Int))) : Int) == (1 : Int) then !rngB a (5 : Int) (s) else false then true else bif !IntKind.wrap IntKind.i64 (↑(BitVec.toNat (BitVec.ofInt (IntKind.bits IntKind.i64) (Int.fdiv b ((2 : Int) ^ min (Int.toNat ((5 : Int))) (IntKind.bits IntKind.i64))) &&& BitVec.ofInt (IntKind.bits IntKind.i64) (1 : Int))) : Int) == (1 : Int) then s != (0 : Int) else false then false else true))))) (.bad 116) := by kernel_rfl
theorem vlr_val (a : Int) (b : Int) (x : Int) (y : Int) (z : Int) (e : Int) (f : Int) (s : Int) (hc : (inI b) = true) : (.br ((bif bif bif bif !knw a then true else decide (b < (0 : Int)) then true else IntKind.wrap IntKind.i64 (↑(BitVec.toNat (BitVec.ofInt (IntKind.bits IntKind.i64) b &&& ~~~BitVec.ofInt (IntKind.bits IntKind.i64) (alw a))) : Int) != (0 : Int) then true else !bif alw a != (32 : Int) then true else b == (32 : Int) then true else (((bif IntKind.wrap IntKind.i64 (↑(BitVec.toNat (BitVec.ofInt (IntKind.bits IntKind.i64) (Int.fdiv b ((2 : Int) ^ min (Int.toNat (0 : Int)) (IntKind.bits IntKind.i64))) &&& BitVec.ofInt (IntKind.bits IntKind.i64) (1 : Int))) : Int) == (1 : Int) then (true) else true)) && (bif bif bif IntKind.wrap IntKind.i64 (↑(BitVec.toNat (BitVec.ofInt (IntKind.bits IntKind.i64) (Int.fdiv b ((2 : Int) ^ min (Int.toNat (0 : Int)) (IntKind.bits IntKind.i64))) &&& BitVec.ofInt (IntKind.bits IntKind.i64) (1 : Int))) : Int) == (1 : Int) then !rngB a (0 : Int) (x) else false then true else bif !IntKind.wrap IntKind.i64 (↑(BitVec.toNat (BitVec.ofInt (IntKind.bits IntKind.i64) (Int.fdiv b ((2 : Int) ^ min (Int.toNat (0 : Int)) (IntKind.bits IntKind.i64))) &&& BitVec.ofInt (IntKind.bits IntKind.i64) (1 : Int))) : Int) == (1 : Int) then x != (0 : Int) else false then true else (((bif IntKind.wrap IntKind.i64 (↑(BitVec.toNat (BitVec.ofInt (IntKind.bits IntKind.i64) (Int.fdiv b ((2 : Int) ^ min (Int.toNat ((1 : Int))) (IntKind.bits IntKind.i64))) &&& BitVec.ofInt (IntKind.bits IntKind.i64) (1 : Int))) : Int) == (1 : Int) then (true) else true)) && (bif bif bif IntKind.wrap IntKind.i64 (↑(BitVec.toNat (BitVec.ofInt (IntKind.bits IntKind.i64) (Int.fdiv b ((2 : Int) ^ min (Int.toNat ((1 : Int))) (IntKind.bits IntKind.i64))) &&& BitVec.ofInt (IntKind.bits IntKind.i64) (1 : Int))) : Int) == (1 : Int) then !rngB a (1 : Int) (y) else false then true else bif !IntKind.wrap IntKind.i64 (↑(BitVec.toNat (BitVec.ofInt (IntKind.bits IntKind.i64) (Int.fdiv b ((2 : Int) ^ min (Int.toNat ((1 : Int))) (IntKind.bits IntKind.i64))) &&& BitVec.ofInt (IntKind.bits IntKind.i64) (1 : Int))) : Int) == (1 : Int) then y != (0 : Int) else false then true else (((bif IntKind.wrap IntKind.i64 (↑(BitVec.toNat (BitVec.ofInt (IntKind.bits IntKind.i64) (Int.fdiv b ((2 : Int) ^ min (Int.toNat ((2 : Int))) (IntKind.bits IntKind.i64))) &&& BitVec.ofInt (IntKind.bits IntKind.i64) (1 : Int))) : Int) == (1 : Int) then (true) else true)) && (bif bif bif IntKind.wrap IntKind.i64 (↑(BitVec.toNat (BitVec.ofInt (IntKind.bits IntKind.i64) (Int.fdiv b ((2 : Int) ^ min (Int.toNat ((2 : Int))) (IntKind.bits IntKind.i64))) &&& BitVec.ofInt (IntKind.bits IntKind.i64) (1 : Int))) : Int) == (1 : Int) then !rngB a (2 : Int) (z) else false then true else bif !IntKind.wrap IntKind.i64 (↑(BitVec.toNat (BitVec.ofInt (IntKind.bits IntKind.i64) (Int.fdiv b ((2 : Int) ^ min (Int.toNat ((2 : Int))) (IntKind.bits IntKind.i64))) &&& BitVec.ofInt (IntKind.bits IntKind.i64) (1 : Int))) : Int) == (1 : Int) then z != (0 : Int) else false then true else (((bif IntKind.wrap IntKind.i64 (↑(BitVec.toNat (BitVec.ofInt (IntKind.bits IntKind.i64) (Int.fdiv b ((2 : Int) ^ min (Int.toNat ((3 : Int))) (IntKind.bits IntKind.i64))) &&& BitVec.ofInt (IntKind.bits IntKind.i64) (1 : Int))) : Int) == (1 : Int) then (true) else true)) && (bif bif bif IntKind.wrap IntKind.i64 (↑(BitVec.toNat (BitVec.ofInt (IntKind.bits IntKind.i64) (Int.fdiv b ((2 : Int) ^ min (Int.toNat ((3 : Int))) (IntKind.bits IntKind.i64))) &&& BitVec.ofInt (IntKind.bits IntKind.i64) (1 : Int))) : Int) == (1 : Int) then !rngB a (3 : Int) (e) else false then true else bif !IntKind.wrap IntKind.i64 (↑(BitVec.toNat (BitVec.ofInt (IntKind.bits IntKind.i64) (Int.fdiv b ((2 : Int) ^ min (Int.toNat ((3 : Int))) (IntKind.bits IntKind.i64))) &&& BitVec.ofInt (IntKind.bits IntKind.i64) (1 : Int))) : Int) == (1 : Int) then e != (0 : Int) else false then true else (((bif IntKind.wrap IntKind.i64 (↑(BitVec.toNat (BitVec.ofInt (IntKind.bits IntKind.i64) (Int.fdiv b ((2 : Int) ^ min (Int.toNat ((4 : Int))) (IntKind.bits IntKind.i64))) &&& BitVec.ofInt (IntKind.bits IntKind.i64) (1 : Int))) : Int) == (1 : Int) then (true) else true)) && (bif bif bif IntKind.wrap IntKind.i64 (↑(BitVec.toNat (BitVec.ofInt (IntKind.bits IntKind.i64) (Int.fdiv b ((2 : Int) ^ min (Int.toNat ((4 : Int))) (IntKind.bits IntKind.i64))) &&& BitVec.ofInt (IntKind.bits IntKind.i64) (1 : Int))) : Int) == (1 : Int) then !rngB a (4 : Int) (f) else false then true else bif !IntKind.wrap IntKind.i64 (↑(BitVec.toNat (BitVec.ofInt (IntKind.bits IntKind.i64) (Int.fdiv b ((2 : Int) ^ min (Int.toNat ((4 : Int))) (IntKind.bits IntKind.i64))) &&& BitVec.ofInt (IntKind.bits IntKind.i64) (1 : Int))) : Int) == (1 : Int) then f != (0 : Int) else false then true else ((bif IntKind.wrap IntKind.i64 (↑(BitVec.toNat (BitVec.ofInt (IntKind.bits IntKind.i64) (Int.fdiv b ((2 : Int) ^ min (Int.toNat ((5 : Int))) (IntKind.bits IntKind.i64))) &&& BitVec.ofInt (IntKind.bits IntKind.i64) (1 : Int))) : Int) == (1 : Int) then (true) else true)))))))))))))) (.ret (.one (.v false (.bool (bif bif bif bif !knw a then true else decide (b < (0 : Int)) then true else IntKind.wrap IntKind.i64 (↑(BitVec.toNat (BitVec.ofInt (IntKind.bits IntKind.i64) b &&& ~~~BitVec.ofInt (IntKind.bits IntKind.i64) (alw a))) : Int) != (0 : Int) then true else !bif alw a != (32 : Int) then true else b == (32 : Int) then false else bif bif bif IntKind.wrap IntKind.i64 (↑(BitVec.toNat (BitVec.ofInt (IntKind.bits IntKind.i64) (Int.fdiv b ((2 : Int) ^ min (Int.toNat (0 : Int)) (IntKind.bits IntKind.i64))) &&& BitVec.ofInt (IntKind.bits IntKind.i64) (1 : Int))) : Int) == (1 : Int) then !rngB a (0 : Int) (x) else false then true else bif !IntKind.wrap IntKind.i64 (↑(BitVec.toNat (BitVec.ofInt (IntKind.bits IntKind.i64) (Int.fdiv b ((2 : Int) ^ min (Int.toNat (0 : Int)) (IntKind.bits IntKind.i64))) &&& BitVec.ofInt (IntKind.bits IntKind.i64) (1 : Int))) : Int) == (1 : Int) then x != (0 : Int) else false then false else bif bif bif IntKind.wrap IntKind.i64 (↑(BitVec.toNat (BitVec.ofInt (IntKind.bits IntKind.i64) (Int.fdiv b ((2 : Int) ^ min (Int.toNat ((1 : Int))) (IntKind.bits IntKind.i64))) &&& BitVec.ofInt (IntKind.bits IntKind.i64) (1 : Int))) : Int) == (1 : Int) then !rngB a (1 : Int) (y) else false then true else bif !IntKind.wrap IntKind.i64 (↑(BitVec.toNat (BitVec.ofInt (IntKind.bits IntKind.i64) (Int.fdiv b ((2 : Int) ^ min (Int.toNat ((1 : Int))) (IntKind.bits IntKind.i64))) &&& BitVec.ofInt (IntKind.bits IntKind.i64) (1 : Int))) : Int) == (1 : Int) then y != (0 : Int) else false then false else bif bif bif IntKind.wrap IntKind.i64 (↑(BitVec.toNat (BitVec.ofInt (IntKind.bits IntKind.i64) (Int.fdiv b ((2 : Int) ^ min (Int.toNat ((2 : Int))) (IntKind.bits IntKind.i64))) &&& BitVec.ofInt (IntKind.bits IntKind.i64) (1 : Int))) : Int) == (1 : Int) then !rngB a (2 : Int) (z) else false then true else bif !IntKind.wrap IntKind.i64 (↑(BitVec.toNat (BitVec.ofInt (IntKind.bits IntKind.i64) (Int.fdiv b ((2 : Int) ^ min (Int.toNat ((2 : Int))) (IntKind.bits IntKind.i64))) &&& BitVec.ofInt (IntKind.bits IntKind.i64) (1 : Int))) : Int) == (1 : Int) then z != (0 : Int) else false then false else bif bif bif IntKind.wrap IntKind.i64 (↑(BitVec.toNat (BitVec.ofInt (IntKind.bits IntKind.i64) (Int.fdiv b ((2 : Int) ^ min (Int.toNat ((3 : Int))) (IntKind.bits IntKind.i64))) &&& BitVec.ofInt (IntKind.bits IntKind.i64) (1 : Int))) : Int) == (1 : Int) then !rngB a (3 : Int) (e) else false then true else bif !IntKind.wrap IntKind.i64 (↑(BitVec.toNat (BitVec.ofInt (IntKind.bits IntKind.i64) (Int.fdiv b ((2 : Int) ^ min (Int.toNat ((3 : Int))) (IntKind.bits IntKind.i64))) &&& BitVec.ofInt (IntKind.bits IntKind.i64) (1 : Int))) : Int) == (1 : Int) then e != (0 : Int) else false then false else bif bif bif IntKind.wrap IntKind.i64 (↑(BitVec.toNat (BitVec.ofInt (IntKind.bits IntKind.i64) (Int.fdiv b ((2 : Int) ^ min (Int.toNat ((4 : Int))) (IntKind.bits IntKind.i64))) &&& BitVec.ofInt (IntKind.bits IntKind.i64) (1 : Int))) : Int) == (1 : Int) then !rngB a (4 : Int) (f) else false then true else bif !IntKind.wrap IntKind.i64 (↑(BitVec.toNat (BitVec.ofInt (IntKind.bits IntKind.i64) (Int.fdiv b ((2 : Int) ^ min (Int.toNat ((4 : Int))) (IntKind.bits IntKind.i64))) &&& BitVec.ofInt (IntKind.bits IntKind.i64) (1 : Int))) : Int) == (1 : Int) then f != (0 : Int) else false then false else bif bif bif IntKind.wrap IntKind.i64 (↑(BitVec.toNat (BitVec.ofInt (IntKind.bits IntKind.i64) (Int.fdiv b ((2 : Int) ^ min (Int.toNat ((5 : Int))) (IntKind.bits IntKind.i64))) &&& BitVec.ofInt (IntKind.bits IntKind.i64) (1 : Int))) : Int) == (1 : Int) then !rngB a (5 : Int) (s) else false then true else bif !IntKind.wrap IntKind.i64 (↑(BitVec.toNat (BitVec.ofInt (IntKind.bits IntKind.i64) (Int.fdiv b ((2 : Int) ^ min (Int.toNat ((5 : Int))) (IntKind.bits IntKind.i64))) &&& BitVec.ofInt (IntKind.bits IntKind.i64) (1 : Int))) : Int) == (1 : Int) then s != (0 : Int) else false then false else true))))) (.bad 116) : Tr AV).val = some (.one (.v false (.bool (vld a b x y z e f s)))) := by
  have hx : (IntKind.wrap IntKind.i64 (((BitVec.toNat (BitVec.ofInt (IntKind.bits IntKind.i64) b &&& ~~~BitVec.ofInt (IntKind.bits IntKind.i64) (alw a)) : Nat)) : Int) != (0 : Int)) = !bwo a b := rfl
  have hn := @bwo_le a b hc
  simp only [wokR, wokS, hx, Bool.cond_self, Bool.and_self, Bool.true_and]
  unfold vld
  generalize wok a b 0 x = t0
  generalize wok a b 1 y = t1
  generalize wok a b 2 z = t2
  generalize wok a b 3 e = t3
  generalize wok a b 4 f = t4
  generalize wok a b 5 s = t5
  simp only [Tr.val, cond_true]
  cases knw a
  · rfl
  · cases hq : bwo a b
    · cases decide (b < 0) <;> rfl
    · rw [decide_eq_false (show ¬ b < 0 by have := hn hq; omega)]
      cases (alw a != 32) <;> cases (b == 32) <;> cases t0 <;> cases t1 <;> cases t2 <;> cases t3 <;> cases t4 <;> cases t5 <;> rfl
def vlr_g : List AV → Option (Tr AV)
  | [.ag [.v _ (.int .i64 a), .v _ (.int .i64 b), .v _ (.int .i64 x), .v _ (.int .i64 y), .v _ (.int .i64 z), .v _ (.int .i64 e), .v _ (.int .i64 f), .v _ (.int .i64 s)]] => some (.br (inI b) (.ret (.one (.v false (.bool (vld a b x y z e f s))))) (.bad 900))
  | _ => none
set_option maxHeartbeats 4000000 in
theorem vlr_ok : FunOK Tryd.prog 8 vlr_g := by
  refine fun_ok (by kernel_rfl) (gcA_S7_ok) (L0_ok _) 9 (On := (opens [])) (fun args t h => ?_)
  unfold vlr_g at h
  split at h
  · rename_i _ a _ b _ x _ y _ z _ e _ f _ s
    simp only [Option.some.injEq] at h
    subst h
    refine ⟨[.ag [.v false (.int .i64 a), .v false (.int .i64 b), .v false (.int .i64 x), .v false (.int .i64 y), .v false (.int .i64 z), .v false (.int .i64 e), .v false (.int .i64 f), .v false (.int .i64 s)]], rfl, fun fr w us h => h, fun r hr => ?_⟩
    obtain ⟨hc, hr⟩ := br_bad hr
    simp only [Tr.val, Option.some.injEq] at hr
    subst hr
    rw [vlr_tree]
    exact vlr_val a b x y z e f s hc
  · cases h
def gcA_S8 : Sums := addS 8 vlr_g gcA_S7
theorem gcA_S8_ok : SumOK Tryd.prog gcA_S8 := addS_ok (vlr_ok) (gcA_S7_ok)
end Go.Proofs.YtadpmcdokgdefaaDoor
