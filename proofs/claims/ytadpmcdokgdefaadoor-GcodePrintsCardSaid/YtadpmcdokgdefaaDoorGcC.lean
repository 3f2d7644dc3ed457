/-
  Layer 39: GcodeValid, GcodePrints, GcodeCodes, GcodeApart.
-/
import Derived.Test.YtadpmcdokgdefaaDoorProg
import Derived.Test.YtadpmcdokgdefaaDoorFvX
import Derived.Test.YtadpmcdokgdefaaDoorFvZ
import Derived.Test.YtadpmcdokgdefaaDoorAut
import Derived.Test.YtadpmcdokgdefaaDoorPl
import Derived.Test.YtadpmcdokgdefaaDoorGcm
import Derived.Test.YtadpmcdokgdefaaDoorScn
import Derived.Test.YtadpmcdokgdefaaDoorGcA
import Derived.Test.YtadpmcdokgdefaaDoorGcB
import Derived.Test.YtadpmcdokgdefaaDoorFmt
import Derived.Test.YtadpmcdokgdefaaDoorBal
namespace Go.Proofs.YtadpmcdokgdefaaDoor
open Go
set_option maxRecDepth 100000 in
theorem aw9_val : (match (evalF Tryd.prog gcB_S6 (opens []) L0 9 9 []).val with | some (.one (.v _ (.bool true))) => true | _ => false) = true := by kernel_rfl
def gcC_S2 : Sums := addS 9 gTrue gcB_S6
theorem gcC_S2_ok : SumOK Tryd.prog gcC_S2 := addS_ok (gTrueV_ok (by kernel_rfl) (gcB_S6_ok) (L0_ok _) aw9_val) (gcB_S6_ok)
theorem inI_of {x : Int} (h : (Lit.int .i64 x).wf = true) : inI x = true := inI_iff.2 (i64_range h)
theorem ctx_toList {a b : List UInt8} : ((⟨a.toArray⟩ : ByteArray).toList == (⟨b.toArray⟩ : ByteArray).toList) = decide (a = b) := by
  rw [ByteArray.toList_eq, ByteArray.toList_eq, Bool.eq_iff_iff, beq_iff_eq, decide_eq_true_eq]
def bts (b : Int) : Bool × Bool × Bool × Bool × Bool × Bool := (hsB b 0, hsB b 1, hsB b 2, hsB b 3, hsB b 4, hsB b 5)
def btv : Bool × Bool × Bool × Bool × Bool × Bool → Nat := fun t => (bif t.1 then 1 else 0) + ((bif t.2.1 then 2 else 0) + ((bif t.2.2.1 then 4 else 0) + ((bif t.2.2.2.1 then 8 else 0) + ((bif t.2.2.2.2.1 then 16 else 0) + (bif t.2.2.2.2.2 then 32 else 0)))))
theorem bts_eq {n : Nat} (h : n ≤ 32) : btv (bts (n : Int)) = n := by
  obtain rfl | rfl | rfl | rfl | rfl | rfl | rfl | rfl | rfl | rfl | rfl | rfl | rfl | rfl | rfl | rfl | rfl | rfl | rfl | rfl | rfl | rfl | rfl | rfl | rfl | rfl | rfl | rfl | rfl | rfl | rfl | rfl | rfl : n = 0 ∨ n = 1 ∨ n = 2 ∨ n = 3 ∨ n = 4 ∨ n = 5 ∨ n = 6 ∨ n = 7 ∨ n = 8 ∨ n = 9 ∨ n = 10 ∨ n = 11 ∨ n = 12 ∨ n = 13 ∨ n = 14 ∨ n = 15 ∨ n = 16 ∨ n = 17 ∨ n = 18 ∨ n = 19 ∨ n = 20 ∨ n = 21 ∨ n = 22 ∨ n = 23 ∨ n = 24 ∨ n = 25 ∨ n = 26 ∨ n = 27 ∨ n = 28 ∨ n = 29 ∨ n = 30 ∨ n = 31 ∨ n = 32 := by omega
  all_goals kernel_rfl
theorem bts_inj {b c : Int} (h0 : 0 ≤ b) (h1 : b ≤ 32) (g0 : 0 ≤ c) (g1 : c ≤ 32) (h : bts b = bts c) : b = c := by
  obtain ⟨n, rfl⟩ : ∃ n : Nat, b = (n : Int) := ⟨b.toNat, by omega⟩
  obtain ⟨k, rfl⟩ : ∃ n : Nat, c = (n : Int) := ⟨c.toNat, by omega⟩
  have e1 := bts_eq (n := n) (by omega)
  have e2 := bts_eq (n := k) (by omega)
  rw [h, e2] at e1
  rw [e1]
theorem vld_parts {a b x y z e f s : Int} (h : vld a b x y z e f s = true) : bwo a b = true ∧ ∀ p ∈ lts b x y z e f s, p.1 = false → p.2.2 = 0 := by
  unfold vld at h
  simp only [Bool.and_eq_true] at h
  obtain ⟨⟨_, h1, _⟩, t0, t1, t2, t3, t4, t5⟩ := h
  refine ⟨h1, fun p hp hq => ?_⟩
  have w : ∀ k n, wok a b k n = true → hsB b k = false → n = 0 := fun k n h g => by
    unfold wok at h
    rw [g] at h
    exact beq_iff_eq.1 h
  unfold lts at hp
  simp only [List.mem_cons, List.not_mem_nil, or_false] at hp
  rcases hp with rfl | rfl | rfl | rfl | rfl | rfl
  · exact w _ _ t0 hq
  · exact w _ _ t1 hq
  · exact w _ _ t2 hq
  · exact w _ _ t3 hq
  · exact w _ _ t4 hq
  · exact w _ _ t5 hq
theorem lts_map (b x y z e f s : Int) : (lts b x y z e f s).map (fun x => x.2.1) = [88, 89, 90, 69, 70, 83] := by
  unfold lts
  simp only [List.map_cons, List.map_nil]
theorem apart {a b x y z e f s a1 b1 x1 y1 z1 e1 f1 s1 : Int} (h1 : vld a b x y z e f s = true) (h2 : vld a1 b1 x1 y1 z1 e1 f1 s1 = true) (i1 : inI b = true) (i2 : inI b1 = true) (h : ctx a (lts b x y z e f s) = ctx a1 (lts b1 x1 y1 z1 e1 f1 s1)) : a = a1 ∧ b = b1 ∧ x = x1 ∧ y = y1 ∧ z = z1 ∧ e = e1 ∧ f = f1 ∧ s = s1 := by
  obtain ⟨p1, q1⟩ := vld_parts h1
  obtain ⟨p2, q2⟩ := vld_parts h2
  obtain ⟨ha, hl⟩ := ctx_inj ((lts_map b x y z e f s).trans (lts_map b1 x1 y1 z1 e1 f1 s1).symm) (by rw [lts_map]; decide) q1 q2 h
  obtain ⟨l1, l2⟩ := bwo_le i1 p1
  obtain ⟨l3, l4⟩ := bwo_le i2 p2
  unfold lts at hl
  simp only [List.cons.injEq, Prod.mk.injEq, and_true, true_and] at hl
  obtain ⟨⟨b0, rfl⟩, ⟨b1', rfl⟩, ⟨b2, rfl⟩, ⟨b3, rfl⟩, ⟨b4, rfl⟩, b5, rfl⟩ := hl
  refine ⟨ha, bts_inj l1 l2 l3 l4 ?_, rfl, rfl, rfl, rfl, rfl, rfl⟩
  unfold bts
  rw [b0, b1', b2, b3, b4, b5]
set_option maxRecDepth 100000 in
theorem law_GcodeValid_tree (a : Int) (b : Int) (x : Int) (y : Int) (z : Int) (e : Int) (f : Int) (s : Int) : evalF Tryd.prog gcC_S2 (opens []) L0 9 3 [.ag [.v false (.int .i64 a), .v false (.int .i64 b), .v false (.int .i64 x), .v false (.int .i64 y), .v false (.int .i64 z), .v false (.int .i64 e), .v false (.int .i64 f), .v false (.int .i64 s)]] = .br (((inI b) && (inI b))) (.ret (.one (.v false (.bool (bif vld a b x y z e f s == vld a b x y z e f s then true else false))))) (.bad 116) := by kernel_rfl
set_option maxHeartbeats 4000000 in
theorem law_GcodeValid_all (a : Int) (b : Int) (x : Int) (y : Int) (z : Int) (e : Int) (f : Int) (s : Int) (r0 : Ty.InR (.prod (.int .i64) (.prod (.int .i64) (.prod (.int .i64) (.prod (.int .i64) (.prod (.int .i64) (.prod (.int .i64) (.prod (.int .i64) (.int .i64)))))))) (a, (b, (x, (y, (z, (e, (f, s))))))))  : Tr.all (fun r => ∃ kn, r = AV.one (.v kn (.bool true))) (.br (((inI b) && (inI b))) (.ret (.one (.v false (.bool (bif vld a b x y z e f s == vld a b x y z e f s then true else false))))) (.bad 116)) := by
  have h := inI_of r0.2.1
  simp only [h, beq_self_eq_true, cond_true, Bool.and_self]
  exact ⟨fun _ => ⟨_, rfl⟩, fun h => by cases h⟩
set_option maxHeartbeats 4000000 in
theorem law_GcodeValid (v0 : Value) (x0 : ((.prod (.int .i64) (.prod (.int .i64) (.prod (.int .i64) (.prod (.int .i64) (.prod (.int .i64) (.prod (.int .i64) (.prod (.int .i64) (.int .i64)))))))) : Ty).den) (r0 : Ty.InR (.prod (.int .i64) (.prod (.int .i64) (.prod (.int .i64) (.prod (.int .i64) (.prod (.int .i64) (.prod (.int .i64) (.prod (.int .i64) (.int .i64)))))))) x0) (z_w : World) (i0 : (AV.ag (Ty.cells false (.prod (.int .i64) (.prod (.int .i64) (.prod (.int .i64) (.prod (.int .i64) (.prod (.int .i64) (.prod (.int .i64) (.prod (.int .i64) (.int .i64)))))))) x0)).is [] (fun _ => none) (fun b => b < z_w.heap.size) z_w v0) (hB : Bas z_w) : Calls Tryd.prog 3 #[v0] z_w fun e w' => e = .returned (.bool true) ∧ Ext z_w w' := by
  obtain ⟨a, ⟨b, ⟨x, ⟨y, ⟨z, ⟨e, ⟨f, s⟩⟩⟩⟩⟩⟩⟩ := x0
  refine law_of_tree (by kernel_rfl) (gcC_S2_ok) (L0_ok _) (law_GcodeValid_tree a b x y z e f s) (law_GcodeValid_all a b x y z e f s r0 ) rfl z_w _ _ (fun _ h => h) ⟨_, _, rfl, i0, rfl⟩
set_option maxRecDepth 100000 in
theorem law_GcodePrints_tree (a : Int) (b : Int) (x : Int) (y : Int) (z : Int) (e : Int) (f : Int) (s : Int) : evalF Tryd.prog gcC_S2 (opens []) L0 9 4 [.ag [.v false (.int .i64 a), .v false (.int .i64 b), .v false (.int .i64 x), .v false (.int .i64 y), .v false (.int .i64 z), .v false (.int .i64 e), .v false (.int .i64 f), .v false (.int .i64 s)]] = .br (((inI8 a b x y z e f s) && (inI8 a b x y z e f s))) (.ret (.one (.v false (.bool (bif bif ByteArray.toList (prtB a b x y z e f s) == ByteArray.toList (prtB a b x y z e f s) then (bif vld a b x y z e f s then (0 : Int) else (1 : Int)) == bif vld a b x y z e f s then (0 : Int) else (1 : Int) else false then true else false))))) (.bad 116) := by kernel_rfl
set_option maxHeartbeats 4000000 in
theorem law_GcodePrints_all (a : Int) (b : Int) (x : Int) (y : Int) (z : Int) (e : Int) (f : Int) (s : Int) (r0 : Ty.InR (.prod (.int .i64) (.prod (.int .i64) (.prod (.int .i64) (.prod (.int .i64) (.prod (.int .i64) (.prod (.int .i64) (.prod (.int .i64) (.int .i64)))))))) (a, (b, (x, (y, (z, (e, (f, s))))))))  : Tr.all (fun r => ∃ kn, r = AV.one (.v kn (.bool true))) (.br (((inI8 a b x y z e f s) && (inI8 a b x y z e f s))) (.ret (.one (.v false (.bool (bif bif ByteArray.toList (prtB a b x y z e f s) == ByteArray.toList (prtB a b x y z e f s) then (bif vld a b x y z e f s then (0 : Int) else (1 : Int)) == bif vld a b x y z e f s then (0 : Int) else (1 : Int) else false then true else false))))) (.bad 116)) := by
  have h : inI8 a b x y z e f s = true := by
    unfold inI8
    rw [inI_of r0.1, inI_of r0.2.1, inI_of r0.2.2.1, inI_of r0.2.2.2.1, inI_of r0.2.2.2.2.1, inI_of r0.2.2.2.2.2.1, inI_of r0.2.2.2.2.2.2.1, inI_of r0.2.2.2.2.2.2.2]; rfl
  simp only [h, beq_self_eq_true, cond_true, Bool.and_self]
  exact ⟨fun _ => ⟨_, rfl⟩, fun h => by cases h⟩
set_option maxHeartbeats 4000000 in
theorem law_GcodePrints (v0 : Value) (x0 : ((.prod (.int .i64) (.prod (.int .i64) (.prod (.int .i64) (.prod (.int .i64) (.prod (.int .i64) (.prod (.int .i64) (.prod (.int .i64) (.int .i64)))))))) : Ty).den) (r0 : Ty.InR (.prod (.int .i64) (.prod (.int .i64) (.prod (.int .i64) (.prod (.int .i64) (.prod (.int .i64) (.prod (.int .i64) (.prod (.int .i64) (.int .i64)))))))) x0) (z_w : World) (i0 : (AV.ag (Ty.cells false (.prod (.int .i64) (.prod (.int .i64) (.prod (.int .i64) (.prod (.int .i64) (.prod (.int .i64) (.prod (.int .i64) (.prod (.int .i64) (.int .i64)))))))) x0)).is [] (fun _ => none) (fun b => b < z_w.heap.size) z_w v0) (hB : Bas z_w) : Calls Tryd.prog 4 #[v0] z_w fun e w' => e = .returned (.bool true) ∧ Ext z_w w' := by
  obtain ⟨a, ⟨b, ⟨x, ⟨y, ⟨z, ⟨e, ⟨f, s⟩⟩⟩⟩⟩⟩⟩ := x0
  refine law_of_tree (by kernel_rfl) (gcC_S2_ok) (L0_ok _) (law_GcodePrints_tree a b x y z e f s) (law_GcodePrints_all a b x y z e f s r0 ) rfl z_w _ _ (fun _ h => h) ⟨_, _, rfl, i0, rfl⟩
set_option maxRecDepth 100000 in
theorem law_GcodeCodes_tree (c : Int) (n : Int) : evalF Tryd.prog gcC_S2 (opens []) L0 9 6 [.one (.v false (.int .i64 c)), .one (.v false (.int .i64 n))] = .br ((bif bif decide (c ≥ (0 : Int)) then decide (c < (100 : Int)) else false then ((decide ((0 : Int) ≤ Int.tmod c (↑(List.length [(0 : Int), (1 : Int), (4 : Int), (28 : Int), (1024 : Int), (1025 : Int), (1104 : Int), (1106 : Int), (1107 : Int), (1109 : Int), (1112 : Int), (1140 : Int), (1190 : Int), (1999 : Int)]) : Int)) && decide (Int.tmod c (↑(List.length [(0 : Int), (1 : Int), (4 : Int), (28 : Int), (1024 : Int), (1025 : Int), (1104 : Int), (1106 : Int), (1107 : Int), (1109 : Int), (1112 : Int), (1140 : Int), (1190 : Int), (1999 : Int)]) : Int) < (↑(List.length [(0 : Int), (1 : Int), (4 : Int), (28 : Int), (1024 : Int), (1025 : Int), (1104 : Int), (1106 : Int), (1107 : Int), (1109 : Int), (1112 : Int), (1140 : Int), (1190 : Int), (1999 : Int)]) : Int))) && ((true) && ((true) && ((bif vld (el_i [(0 : Int), (1 : Int), (4 : Int), (28 : Int), (1024 : Int), (1025 : Int), (1104 : Int), (1106 : Int), (1107 : Int), (1109 : Int), (1112 : Int), (1140 : Int), (1190 : Int), (1999 : Int)] (Int.tmod c (↑(List.length [(0 : Int), (1 : Int), (4 : Int), (28 : Int), (1024 : Int), (1025 : Int), (1104 : Int), (1106 : Int), (1107 : Int), (1109 : Int), (1112 : Int), (1140 : Int), (1190 : Int), (1999 : Int)]) : Int))) (32 : Int) (0 : Int) (0 : Int) (0 : Int) (0 : Int) (0 : Int) n == vld (el_i [(0 : Int), (1 : Int), (4 : Int), (28 : Int), (1024 : Int), (1025 : Int), (1104 : Int), (1106 : Int), (1107 : Int), (1109 : Int), (1112 : Int), (1140 : Int), (1190 : Int), (1999 : Int)] (Int.tmod c (↑(List.length [(0 : Int), (1 : Int), (4 : Int), (28 : Int), (1024 : Int), (1025 : Int), (1104 : Int), (1106 : Int), (1107 : Int), (1109 : Int), (1112 : Int), (1140 : Int), (1190 : Int), (1999 : Int)]) : Int))) (32 : Int) (0 : Int) (0 : Int) (0 : Int) (0 : Int) (0 : Int) n then ((true) && (true)) else true))))) else ((true) && ((true) && ((bif vld c (32 : Int) (0 : Int) (0 : Int) (0 : Int) (0 : Int) (0 : Int) n == vld c (32 : Int) (0 : Int) (0 : Int) (0 : Int) (0 : Int) (0 : Int) n then ((true) && (true)) else true)))))) (.ret (.one (.v false (.bool (bif bif decide (c ≥ (0 : Int)) then decide (c < (100 : Int)) else false then bif bif vld (el_i [(0 : Int), (1 : Int), (4 : Int), (28 : Int), (1024 : Int), (1025 : Int), (1104 : Int), (1106 : Int), (1107 : Int), (1109 : Int), (1112 : Int), (1140 : Int), (1190 : Int), (1999 : Int)] (Int.tmod c (↑(List.length [(0 : Int), (1 : Int), (4 : Int), (28 : Int), (1024 : Int), (1025 : Int), (1104 : Int), (1106 : Int), (1107 : Int), (1109 : Int), (1112 : Int), (1140 : Int), (1190 : Int), (1999 : Int)]) : Int))) (32 : Int) (0 : Int) (0 : Int) (0 : Int) (0 : Int) (0 : Int) n == vld (el_i [(0 : Int), (1 : Int), (4 : Int), (28 : Int), (1024 : Int), (1025 : Int), (1104 : Int), (1106 : Int), (1107 : Int), (1109 : Int), (1112 : Int), (1140 : Int), (1190 : Int), (1999 : Int)] (Int.tmod c (↑(List.length [(0 : Int), (1 : Int), (4 : Int), (28 : Int), (1024 : Int), (1025 : Int), (1104 : Int), (1106 : Int), (1107 : Int), (1109 : Int), (1112 : Int), (1140 : Int), (1190 : Int), (1999 : Int)]) : Int))) (32 : Int) (0 : Int) (0 : Int) (0 : Int) (0 : Int) (0 : Int) n then vld (el_i [(0 : Int), (1 : Int), (4 : Int), (28 : Int), (1024 : Int), (1025 : Int), (1104 : Int), (1106 : Int), (1107 : Int), (1109 : Int), (1112 : Int), (1140 : Int), (1190 : Int), (1999 : Int)] (Int.tmod c (↑(List.length [(0 : Int), (1 : Int), (4 : Int), (28 : Int), (1024 : Int), (1025 : Int), (1104 : Int), (1106 : Int), (1107 : Int), (1109 : Int), (1112 : Int), (1140 : Int), (1190 : Int), (1999 : Int)]) : Int))) (0 : Int) (0 : Int) (0 : Int) (0 : Int) (0 : Int) (0 : Int) (0 : Int) == vld (el_i [(0 : Int), (1 : Int), (4 : Int), (28 : Int), (1024 : Int), (1025 : Int), (1104 : Int), (1106 : Int), (1107 : Int), (1109 : Int), (1112 : Int), (1140 : Int), (1190 : Int), (1999 : Int)] (Int.tmod c (↑(List.length [(0 : Int), (1 : Int), (4 : Int), (28 : Int), (1024 : Int), (1025 : Int), (1104 : Int), (1106 : Int), (1107 : Int), (1109 : Int), (1112 : Int), (1140 : Int), (1190 : Int), (1999 : Int)]) : Int))) (0 : Int) (0 : Int) (0 : Int) (0 : Int) (0 : Int) (0 : Int) (0 : Int) else false then true else false else bif bif vld c (32 : Int) (0 : Int) (0 : Int) (0 : Int) (0 : Int) (0 : Int) n == vld c (32 : Int) (0 : Int) (0 : Int) (0 : Int) (0 : Int) (0 : Int) n then vld c (0 : Int) (0 : Int) (0 : Int) (0 : Int) (0 : Int) (0 : Int) (0 : Int) == vld c (0 : Int) (0 : Int) (0 : Int) (0 : Int) (0 : Int) (0 : Int) (0 : Int) else false then true else false))))) (.bad 116) := by kernel_rfl
set_option maxHeartbeats 4000000 in
theorem law_GcodeCodes_all (c : Int) (n : Int)  (l0 : -9223372036854775808 ≤ c) (g0 : c ≤ 9223372036854775807) (l1 : -9223372036854775808 ≤ n) (g1 : n ≤ 9223372036854775807) : Tr.all (fun r => ∃ kn, r = AV.one (.v kn (.bool true))) (.br ((bif bif decide (c ≥ (0 : Int)) then decide (c < (100 : Int)) else false then ((decide ((0 : Int) ≤ Int.tmod c (↑(List.length [(0 : Int), (1 : Int), (4 : Int), (28 : Int), (1024 : Int), (1025 : Int), (1104 : Int), (1106 : Int), (1107 : Int), (1109 : Int), (1112 : Int), (1140 : Int), (1190 : Int), (1999 : Int)]) : Int)) && decide (Int.tmod c (↑(List.length [(0 : Int), (1 : Int), (4 : Int), (28 : Int), (1024 : Int), (1025 : Int), (1104 : Int), (1106 : Int), (1107 : Int), (1109 : Int), (1112 : Int), (1140 : Int), (1190 : Int), (1999 : Int)]) : Int) < (↑(List.length [(0 : Int), (1 : Int), (4 : Int), (28 : Int), (1024 : Int), (1025 : Int), (1104 : Int), (1106 : Int), (1107 : Int), (1109 : Int), (1112 : Int), (1140 : Int), (1190 : Int), (1999 : Int)]) : Int))) && ((true) && ((true) && ((bif vld (el_i [(0 : Int), (1 : Int), (4 : Int), (28 : Int), (1024 : Int), (1025 : Int), (1104 : Int), (1106 : Int), (1107 : Int), (1109 : Int), (1112 : Int), (1140 : Int), (1190 : Int), (1999 : Int)] (Int.tmod c (↑(List.length [(0 : Int), (1 : Int), (4 : Int), (28 : Int), (1024 : Int), (1025 : Int), (1104 : Int), (1106 : Int), (1107 : Int), (1109 : Int), (1112 : Int), (1140 : Int), (1190 : Int), (1999 : Int)]) : Int))) (32 : Int) (0 : Int) (0 : Int) (0 : Int) (0 : Int) (0 : Int) n == vld (el_i [(0 : Int), (1 : Int), (4 : Int), (28 : Int), (1024 : Int), (1025 : Int), (1104 : Int), (1106 : Int), (1107 : Int), (1109 : Int), (1112 : Int), (1140 : Int), (1190 : Int), (1999 : Int)] (Int.tmod c (↑(List.length [(0 : Int), (1 : Int), (4 : Int), (28 : Int), (1024 : Int), (1025 : Int), (1104 : Int), (1106 : Int), (1107 : Int), (1109 : Int), (1112 : Int), (1140 : Int), (1190 : Int), (1999 : Int)]) : Int))) (32 : Int) (0 : Int) (0 : Int) (0 : Int) (0 : Int) (0 : Int) n then ((true) && (true)) else true))))) else ((true) && ((true) && ((bif vld c (32 : Int) (0 : Int) (0 : Int) (0 : Int) (0 : Int) (0 : Int) n == vld c (32 : Int) (0 : Int) (0 : Int) (0 : Int) (0 : Int) (0 : Int) n then ((true) && (true)) else true)))))) (.ret (.one (.v false (.bool (bif bif decide (c ≥ (0 : Int)) then decide (c < (100 : Int)) else false then bif bif vld (el_i [(0 : Int), (1 : Int), (4 : Int), (28 : Int), (1024 : Int), (1025 : Int), (1104 : Int), (1106 : Int), (1107 : Int), (1109 : Int), (1112 : Int), (1140 : Int), (1190 : Int), (1999 : Int)] (Int.tmod c (↑(List.length [(0 : Int), (1 : Int), (4 : Int), (28 : Int), (1024 : Int), (1025 : Int), (1104 : Int), (1106 : Int), (1107 : Int), (1109 : Int), (1112 : Int), (1140 : Int), (1190 : Int), (1999 : Int)]) : Int))) (32 : Int) (0 : Int) (0 : Int) (0 : Int) (0 : Int) (0 : Int) n == vld (el_i [(0 : Int), (1 : Int), (4 : Int), (28 : Int), (1024 : Int), (1025 : Int), (1104 : Int), (1106 : Int), (1107 : Int), (1109 : Int), (1112 : Int), (1140 : Int), (1190 : Int), (1999 : Int)] (Int.tmod c (↑(List.length [(0 : Int), (1 : Int), (4 : Int), (28 : Int), (1024 : Int), (1025 : Int), (1104 : Int), (1106 : Int), (1107 : Int), (1109 : Int), (1112 : Int), (1140 : Int), (1190 : Int), (1999 : Int)]) : Int))) (32 : Int) (0 : Int) (0 : Int) (0 : Int) (0 : Int) (0 : Int) n then vld (el_i [(0 : Int), (1 : Int), (4 : Int), (28 : Int), (1024 : Int), (1025 : Int), (1104 : Int), (1106 : Int), (1107 : Int), (1109 : Int), (1112 : Int), (1140 : Int), (1190 : Int), (1999 : Int)] (Int.tmod c (↑(List.length [(0 : Int), (1 : Int), (4 : Int), (28 : Int), (1024 : Int), (1025 : Int), (1104 : Int), (1106 : Int), (1107 : Int), (1109 : Int), (1112 : Int), (1140 : Int), (1190 : Int), (1999 : Int)]) : Int))) (0 : Int) (0 : Int) (0 : Int) (0 : Int) (0 : Int) (0 : Int) (0 : Int) == vld (el_i [(0 : Int), (1 : Int), (4 : Int), (28 : Int), (1024 : Int), (1025 : Int), (1104 : Int), (1106 : Int), (1107 : Int), (1109 : Int), (1112 : Int), (1140 : Int), (1190 : Int), (1999 : Int)] (Int.tmod c (↑(List.length [(0 : Int), (1 : Int), (4 : Int), (28 : Int), (1024 : Int), (1025 : Int), (1104 : Int), (1106 : Int), (1107 : Int), (1109 : Int), (1112 : Int), (1140 : Int), (1190 : Int), (1999 : Int)]) : Int))) (0 : Int) (0 : Int) (0 : Int) (0 : Int) (0 : Int) (0 : Int) (0 : Int) else false then true else false else bif bif vld c (32 : Int) (0 : Int) (0 : Int) (0 : Int) (0 : Int) (0 : Int) n == vld c (32 : Int) (0 : Int) (0 : Int) (0 : Int) (0 : Int) (0 : Int) n then vld c (0 : Int) (0 : Int) (0 : Int) (0 : Int) (0 : Int) (0 : Int) (0 : Int) == vld c (0 : Int) (0 : Int) (0 : Int) (0 : Int) (0 : Int) (0 : Int) (0 : Int) else false then true else false))))) (.bad 116)) := by
  by_cases g : c ≥ 0
  · have g1 : decide ((0 : Int) ≤ Int.tmod c (([(0 : Int), (1 : Int), (4 : Int), (28 : Int), (1024 : Int), (1025 : Int), (1104 : Int), (1106 : Int), (1107 : Int), (1109 : Int), (1112 : Int), (1140 : Int), (1190 : Int), (1999 : Int)].length : Nat) : Int)) = true := decide_eq_true (Int.tmod_nonneg _ g)
    have g2 : decide (Int.tmod c (([(0 : Int), (1 : Int), (4 : Int), (28 : Int), (1024 : Int), (1025 : Int), (1104 : Int), (1106 : Int), (1107 : Int), (1109 : Int), (1112 : Int), (1140 : Int), (1190 : Int), (1999 : Int)].length : Nat) : Int) < (([(0 : Int), (1 : Int), (4 : Int), (28 : Int), (1024 : Int), (1025 : Int), (1104 : Int), (1106 : Int), (1107 : Int), (1109 : Int), (1112 : Int), (1140 : Int), (1190 : Int), (1999 : Int)].length : Nat) : Int)) = true := decide_eq_true (Int.tmod_lt_of_pos c (by decide))
    simp only [g1, g2, beq_self_eq_true, cond_true, Bool.and_self, Bool.cond_self]
    exact ⟨fun _ => ⟨_, rfl⟩, fun h => by cases h⟩
  · simp only [decide_eq_false g, cond_false, beq_self_eq_true, cond_true, Bool.and_self, Bool.cond_self]
    exact ⟨fun _ => ⟨_, rfl⟩, fun h => by cases h⟩
set_option maxHeartbeats 4000000 in
theorem law_GcodeCodes (c : Int) (l0 : -9223372036854775808 ≤ c) (g0 : c ≤ 9223372036854775807) (n : Int) (l1 : -9223372036854775808 ≤ n) (g1 : n ≤ 9223372036854775807) (z_w : World)  (hB : Bas z_w) : Calls Tryd.prog 6 #[.int .i64 c, .int .i64 n] z_w fun e w' => e = .returned (.bool true) ∧ Ext z_w w' := by
  refine law_of_tree (by kernel_rfl) (gcC_S2_ok) (L0_ok _) (law_GcodeCodes_tree c n) (law_GcodeCodes_all c n  l0 g0 l1 g1) rfl z_w _ _ (fun _ h => h) ⟨_, _, rfl, rfl, ⟨_, _, rfl, rfl, rfl⟩⟩
set_option maxRecDepth 100000 in
theorem law_GcodeApart_tree (a : Int) (b : Int) (x : Int) (y : Int) (z : Int) (e : Int) (f : Int) (s : Int) (a1 : Int) (b1 : Int) (x1 : Int) (y1 : Int) (z1 : Int) (e1 : Int) (f1 : Int) (s1 : Int) : evalF Tryd.prog gcC_S2 (opens []) L0 9 5 [.ag [.v false (.int .i64 a), .v false (.int .i64 b), .v false (.int .i64 x), .v false (.int .i64 y), .v false (.int .i64 z), .v false (.int .i64 e), .v false (.int .i64 f), .v false (.int .i64 s)], .ag [.v false (.int .i64 a1), .v false (.int .i64 b1), .v false (.int .i64 x1), .v false (.int .i64 y1), .v false (.int .i64 z1), .v false (.int .i64 e1), .v false (.int .i64 f1), .v false (.int .i64 s1)]] = .br (((inI8 a b x y z e f s) && (inI8 a1 b1 x1 y1 z1 e1 f1 s1))) (.ret (.one (.v false (.bool (bif bif bif (bif vld a b x y z e f s then (0 : Int) else (1 : Int)) != (0 : Int) then true else (bif vld a1 b1 x1 y1 z1 e1 f1 s1 then (0 : Int) else (1 : Int)) != (0 : Int) then true else (ByteArray.toList (prtB a b x y z e f s) == ByteArray.toList (prtB a1 b1 x1 y1 z1 e1 f1 s1)) == (a == a1 && (b == b1 && (x == x1 && (y == y1 && (z == z1 && (e == e1 && (f == f1 && (s == s1 && true)))))))) then true else false))))) (.bad 116) := by kernel_rfl
set_option maxHeartbeats 4000000 in
theorem law_GcodeApart_all (a : Int) (b : Int) (x : Int) (y : Int) (z : Int) (e : Int) (f : Int) (s : Int) (a1 : Int) (b1 : Int) (x1 : Int) (y1 : Int) (z1 : Int) (e1 : Int) (f1 : Int) (s1 : Int) (r0 : Ty.InR (.prod (.int .i64) (.prod (.int .i64) (.prod (.int .i64) (.prod (.int .i64) (.prod (.int .i64) (.prod (.int .i64) (.prod (.int .i64) (.int .i64)))))))) (a, (b, (x, (y, (z, (e, (f, s)))))))) (r1 : Ty.InR (.prod (.int .i64) (.prod (.int .i64) (.prod (.int .i64) (.prod (.int .i64) (.prod (.int .i64) (.prod (.int .i64) (.prod (.int .i64) (.int .i64)))))))) (a1, (b1, (x1, (y1, (z1, (e1, (f1, s1))))))))  : Tr.all (fun r => ∃ kn, r = AV.one (.v kn (.bool true))) (.br (((inI8 a b x y z e f s) && (inI8 a1 b1 x1 y1 z1 e1 f1 s1))) (.ret (.one (.v false (.bool (bif bif bif (bif vld a b x y z e f s then (0 : Int) else (1 : Int)) != (0 : Int) then true else (bif vld a1 b1 x1 y1 z1 e1 f1 s1 then (0 : Int) else (1 : Int)) != (0 : Int) then true else (ByteArray.toList (prtB a b x y z e f s) == ByteArray.toList (prtB a1 b1 x1 y1 z1 e1 f1 s1)) == (a == a1 && (b == b1 && (x == x1 && (y == y1 && (z == z1 && (e == e1 && (f == f1 && (s == s1 && true)))))))) then true else false))))) (.bad 116)) := by
  have h : inI8 a b x y z e f s = true := by
    unfold inI8
    rw [inI_of r0.1, inI_of r0.2.1, inI_of r0.2.2.1, inI_of r0.2.2.2.1, inI_of r0.2.2.2.2.1, inI_of r0.2.2.2.2.2.1, inI_of r0.2.2.2.2.2.2.1, inI_of r0.2.2.2.2.2.2.2]; rfl
  have g : inI8 a1 b1 x1 y1 z1 e1 f1 s1 = true := by
    unfold inI8
    rw [inI_of r1.1, inI_of r1.2.1, inI_of r1.2.2.1, inI_of r1.2.2.2.1, inI_of r1.2.2.2.2.1, inI_of r1.2.2.2.2.2.1, inI_of r1.2.2.2.2.2.2.1, inI_of r1.2.2.2.2.2.2.2]; rfl
  have i1 := inI_of r0.2.1
  have i2 := inI_of r1.2.1
  rw [h, g]
  suffices hs : (bif bif (bif vld a b x y z e f s then (0 : Int) else (1 : Int)) != (0 : Int) then true else (bif vld a1 b1 x1 y1 z1 e1 f1 s1 then (0 : Int) else (1 : Int)) != (0 : Int) then true else (ByteArray.toList (prtB a b x y z e f s) == ByteArray.toList (prtB a1 b1 x1 y1 z1 e1 f1 s1)) == (a == a1 && (b == b1 && (x == x1 && (y == y1 && (z == z1 && (e == e1 && (f == f1 && (s == s1 && true))))))))) = true by
    rw [hs]
    exact ⟨fun _ => ⟨_, rfl⟩, fun h => by cases h⟩
  cases hv : vld a b x y z e f s
  · rfl
  · cases hw : vld a1 b1 x1 y1 z1 e1 f1 s1
    · rfl
    · show ((ByteArray.toList (prtB a b x y z e f s) == ByteArray.toList (prtB a1 b1 x1 y1 z1 e1 f1 s1)) == _) = true
      unfold prtB
      rw [hv, hw, cond_true, cond_true, ctx_toList, beq_iff_eq, Bool.eq_iff_iff, decide_eq_true_eq]
      constructor
      · intro q
        obtain ⟨rfl, rfl, rfl, rfl, rfl, rfl, rfl, rfl⟩ := apart hv hw i1 i2 q
        simp
      · intro q
        simp only [Bool.and_eq_true, beq_iff_eq, and_true] at q
        obtain ⟨rfl, rfl, rfl, rfl, rfl, rfl, rfl, rfl⟩ := q
        rfl
set_option maxHeartbeats 4000000 in
theorem law_GcodeApart (v0 : Value) (x0 : ((.prod (.int .i64) (.prod (.int .i64) (.prod (.int .i64) (.prod (.int .i64) (.prod (.int .i64) (.prod (.int .i64) (.prod (.int .i64) (.int .i64)))))))) : Ty).den) (r0 : Ty.InR (.prod (.int .i64) (.prod (.int .i64) (.prod (.int .i64) (.prod (.int .i64) (.prod (.int .i64) (.prod (.int .i64) (.prod (.int .i64) (.int .i64)))))))) x0) (v1 : Value) (x1 : ((.prod (.int .i64) (.prod (.int .i64) (.prod (.int .i64) (.prod (.int .i64) (.prod (.int .i64) (.prod (.int .i64) (.prod (.int .i64) (.int .i64)))))))) : Ty).den) (r1 : Ty.InR (.prod (.int .i64) (.prod (.int .i64) (.prod (.int .i64) (.prod (.int .i64) (.prod (.int .i64) (.prod (.int .i64) (.prod (.int .i64) (.int .i64)))))))) x1) (z_w : World) (i0 : (AV.ag (Ty.cells false (.prod (.int .i64) (.prod (.int .i64) (.prod (.int .i64) (.prod (.int .i64) (.prod (.int .i64) (.prod (.int .i64) (.prod (.int .i64) (.int .i64)))))))) x0)).is [] (fun _ => none) (fun b => b < z_w.heap.size) z_w v0) (i1 : (AV.ag (Ty.cells false (.prod (.int .i64) (.prod (.int .i64) (.prod (.int .i64) (.prod (.int .i64) (.prod (.int .i64) (.prod (.int .i64) (.prod (.int .i64) (.int .i64)))))))) x1)).is [] (fun _ => none) (fun b => b < z_w.heap.size) z_w v1) (hB : Bas z_w) : Calls Tryd.prog 5 #[v0, v1] z_w fun e w' => e = .returned (.bool true) ∧ Ext z_w w' := by
  obtain ⟨a, ⟨b, ⟨x, ⟨y, ⟨z, ⟨e, ⟨f, s⟩⟩⟩⟩⟩⟩⟩ := x0
  obtain ⟨a1, ⟨b1, ⟨x1, ⟨y1, ⟨z1, ⟨e1, ⟨f1, s1⟩⟩⟩⟩⟩⟩⟩ := x1
  refine law_of_tree (by kernel_rfl) (gcC_S2_ok) (L0_ok _) (law_GcodeApart_tree a b x y z e f s a1 b1 x1 y1 z1 e1 f1 s1) (law_GcodeApart_all a b x y z e f s a1 b1 x1 y1 z1 e1 f1 s1 r0 r1 ) rfl z_w _ _ (fun _ h => h) ⟨_, _, rfl, i0, ⟨_, _, rfl, i1, rfl⟩⟩
end Go.Proofs.YtadpmcdokgdefaaDoor
