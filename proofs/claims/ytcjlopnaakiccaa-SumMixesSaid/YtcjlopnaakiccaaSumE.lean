/-
  Contracts of both encodings of a word, and of both Mix.
-/
import Derived.Test.YtcjlopnaakiccaaSumD
import Derived.Laws.CopyRow
namespace Go.Proofs.Ytcjlopnaakiccaa
open Go.RowKit
/-- Block B is the call's own array of eight bytes, whose first k are those of the word. -/
def Arr (w : World) (B : Nat) (l : List UInt8) : Prop := ∃ cur, w.heap[B]? = some (.cells cur 43 (0, 0)) ∧ cur.size = 8 ∧ cur.toList.take l.length = bv l
theorem arr_new (w : World) (l : Array Value) (h : l.size = 8) : Arr (w.alloc (.cells l 43)) w.heap.size [] := ⟨l, heap_alloc_new w _, h, rfl⟩
theorem Arr.cell {w : World} {B : Nat} {l : List UInt8} (h : Arr w B l) (j : Nat) (hj : j < 8) : (∃ x, w.cell? ⟨B, j, none⟩ = some x) ∧ w.frozen? ⟨B, j, none⟩ = false ∧ B < w.heap.size := by
  obtain ⟨cur, hg, hs, ht⟩ := h
  refine ⟨⟨cur[j]'(by omega), ?_⟩, ?_, (Array.getElem?_eq_some_iff.1 hg).1⟩
  · rw [cell_of_row w B j cur _ (0, 0) hg]; exact Array.getElem?_eq_getElem (by omega)
  · simp [World.frozen?, hg]
theorem Arr.store {w : World} {B : Nat} {l : List UInt8} (h : Arr w B l) (hj : l.length < 8) (b : UInt8) : Arr (w.setCell ⟨B, l.length, none⟩ (.int .u8 (b.toNat : Int))) B (l ++ [b]) := by
  obtain ⟨cur, hg, hs, ht⟩ := h
  refine ⟨cur.setIfInBounds l.length (.int .u8 (b.toNat : Int)), ?_, by simp [hs], ?_⟩
  · simp [World.setCell, Array.getElem?_modify, hg]
  · rw [List.length_append, List.length_singleton, Array.toList_setIfInBounds, bv_append, ← ht, List.take_add_one, List.take_set_of_le (Nat.le_refl _), List.getElem?_set_self (by simp; omega)]
    rfl
theorem Arr.string {w : World} {B n c : Nat} {l : List UInt8} (h : Arr w B l) (hl : l.length = n) :
    (convert 42 9 (.slice (some ⟨B, 0, none⟩) n c)).run Try.prog w = .ok (.string ⟨l.toArray⟩) w := by
  obtain ⟨cur, hg, hs, ht⟩ := h
  rw [run_convert_bytes_string _ _ _ 5 _ _ _ (by kernel_rfl) (by kernel_rfl) (by kernel_rfl)]
  have hc := run_loadCells_list (P := Try.prog) (w := w) ⟨B, 0, none⟩ (bv l) (by
    intro j v hj
    rw [show (⟨B, 0, none⟩ : Addr).add j = ⟨B, j, none⟩ by simp [Addr.add]; exact fun e => e.symm, cell_of_row w B j cur _ (0, 0) hg]
    have hjl := (List.getElem?_eq_some_iff.1 hj).1
    rw [bv_len] at hjl
    rw [← hj, ← ht, List.getElem?_take, if_pos hjl, Array.getElem?_toList])
  rw [bv_len, hl] at hc
  have e : bv l = (l.map fun c => (c.toNat : Int)).map (Value.int .u8) := by simp [bv]
  rw [e] at hc
  rw [run_bytesToString _ _ n c _ hc]
  rw [fold_push]
theorem lit_byte (u : Nat) (j : Nat) (hj : j < 8) : ((UInt8.ofNat (u / 256 ^ j % 256)).toNat : Int) = (u : Int) / 2 ^ (8 * j) % 256 := by
  rw [UInt8.toNat_ofNat']
  rcases (show j = 0 ∨ j = 1 ∨ j = 2 ∨ j = 3 ∨ j = 4 ∨ j = 5 ∨ j = 6 ∨ j = 7 by omega) with rfl | rfl | rfl | rfl | rfl | rfl | rfl | rfl <;> simp only [Nat.reduceMul, Nat.reducePow, Int.reducePow] <;> omega
set_option maxHeartbeats 1000000 in
/-- additive/sum.littleEndian -/
theorem sum_little (u : Nat) (hu : u < 18446744073709551616) (w : World) :
    Calls Try.prog 26 #[.int .u64 (u : Int)] w fun e w' => e = .returned (.string ⟨(lit u 8).toArray⟩) ∧ Ext w w' := by
  obtain ⟨B, hB⟩ : ∃ B, w.heap.size = B := ⟨_, rfl⟩
  have R0 := arr_new w #[Value.int IntKind.u8 0, Value.int IntKind.u8 0, Value.int IntKind.u8 0, Value.int IntKind.u8 0, Value.int IntKind.u8 0, Value.int IntKind.u8 0, Value.int IntKind.u8 0, Value.int IntKind.u8 0] rfl
  rw [hB] at R0
  have HR0 := Lib.hid R0
  have HB := Lib.hid hB
  have u1 : (u : Int) < 18446744073709551616 := by omega
  clear R0 hu
  go_enter Try.func26, Try.ntmps26
  go_wp2_with fail
  go_loopw [5] (fun i wr => ∃ (k : Nat) (l : List UInt8), i = .int .i64 k ∧ k ≤ 8 ∧ l = lit u k ∧ Arr wr B l ∧ Ext w wr) (fun i _ => 8 - (intOf i).toNat)
  case atStart => exact ⟨0, [], rfl, by omega, rfl, HR0.out, (Ext.refl _).alloc _⟩
  case round =>
    obtain ⟨k, l, rfl, hk, hl, hA, hx⟩ := hrel
    have ll : l.length = k := by rw [hl, lit_len]
    by_cases h : k < 8
    · have kl : (k : Int) < 8 := by omega
      have k0 : 0 ≤ 8 * (k : Int) := by omega
      obtain ⟨⟨x, c1⟩, c2, c3⟩ := hA.cell k h
      have st := hA.store (by omega) (UInt8.ofNat (u / 256 ^ k % 256))
      have bx : Ext w (wr.setCell ⟨B, k, none⟩ (.int .u8 ((u : Int) / 2 ^ (8 * k) % 256))) := Below.setCell hx (by rw [HB.out]; exact Nat.le_refl _) _
      rw [lit_byte u k h, ll] at st
      have ST := Lib.hid st; have BX := Lib.hid bx
      have L : Hid (l ++ [UInt8.ofNat (u / 256 ^ k % 256)] = lit u (k + 1)) := Lib.hid (by rw [hl]; rfl)
      clear st bx hl hA hx ll
      go_wp2_with fail
      go_roundw
      case rel => exact ⟨k + 1, _, by go_num, by omega, L.out, ST.out, BX.out⟩
      case measure => simp [intOf]; omega
    · obtain rfl : k = 8 := by omega
      have hs := hA.string (c := 8) ll
      have L := Lib.hid hl
      clear hl hA ll
      go_wp2_with fail
      go_ret
      exact ⟨by rw [← L.out]; rfl, hx⟩
theorem bv_lit_next (u k : Nat) (a : Int) (ha : a = ((u / 256 ^ k : Nat) : Int)) : bv (lit u k) ++ [.int .u8 (a % 256)] = bv (lit u (k + 1)) := by
  rw [lit, bv_append]
  simp only [bv, List.map_cons, List.map_nil]
  rw [UInt8.toNat_ofNat']
  congr 2
  congr 1
  omega
theorem own_string {w : World} {B n : Nat} {v : Value} {l : List UInt8} (h : w.ownsRow B 5 1 v n (bv l)) (hn : 0 < n) : (convert 42 9 v).run Try.prog w = .ok (.string ⟨l.toArray⟩) w := by
  have hl : l.length = n := by have := h.1; rw [bv_len] at this; omega
  rcases h.2 with ⟨_, h0⟩ | ⟨g, cap, cur, rfl, _, hg, hc, _, hs, ht⟩
  · omega
  rw [run_convert_bytes_string _ _ _ 5 _ _ _ (by kernel_rfl) (by kernel_rfl) (by kernel_rfl)]
  have hcc := run_loadCells_list (P := Try.prog) (w := w) ⟨g, 0, none⟩ (bv l) (by
    intro j v hj
    rw [show (⟨g, 0, none⟩ : Addr).add j = ⟨g, j, none⟩ by simp [Addr.add]; exact fun e => e.symm, cell_of_row w g j cur _ (0, 0) hg]
    have hjl := (List.getElem?_eq_some_iff.1 hj).1
    rw [bv_len] at hjl
    rw [← hj, ← ht, List.getElem?_take, if_pos (by omega), Array.getElem?_toList])
  rw [bv_len, hl] at hcc
  have e : bv l = (l.map fun c => (c.toNat : Int)).map (Value.int .u8) := by simp [bv]
  rw [e] at hcc
  rw [run_bytesToString _ _ n cap _ hcc]
  rw [fold_push]
set_option maxHeartbeats 1000000 in
/-- additiveref03.little -/
theorem ref_little (u : Nat) (hu : u < 18446744073709551616) (w : World) :
    Calls Try.prog 27 #[.int .u64 (u : Int)] w fun e w' => e = .returned (.string ⟨(lit u 8).toArray⟩) ∧ Ext w w' := by
  obtain ⟨i0, hi, hz0, hz1, hz2⟩ := info_parts infoB
  have u1 : (u : Int) < 18446744073709551616 := by omega
  obtain ⟨B, hB⟩ : ∃ B, B = w.heap.size := ⟨_, rfl⟩
  have HB := Lib.hid hB
  clear hB
  go_enter Try.func27, Try.ntmps27
  go_wp2_with fail
  go_loopw [0, 3, 4] (fun a v i wr => ∃ (k : Nat) (x : Int), i = .int .i64 k ∧ k ≤ 8 ∧ a = .int .u64 x ∧ 0 ≤ x ∧ x < 18446744073709551616 ∧ x = ((u / 256 ^ k : Nat) : Int) ∧ wr.ownsRow B 5 1 v k (bv (lit u k)) ∧ Ext w wr) (fun _ _ i _ => 8 - (intOf i).toNat)
  case atStart => exact ⟨0, u, rfl, by omega, rfl, by omega, u1, by simp, World.ownsRow_nil _ _ _ _, Ext.refl _⟩
  case round =>
    obtain ⟨k, x, rfl, hk, rfl, x0, x1, hx, hown, hxt⟩ := hrel
    by_cases h : k < 8
    · have kl : (k : Int) < 8 := by omega
      have nx : x / 256 = ((u / 256 ^ (k + 1) : Nat) : Int) := by
        rw [hx, Nat.pow_succ, ← Nat.div_div_eq_div_mul]; omega
      have bn := bv_lit_next u k x hx
      have NX := Lib.hid nx; have BN := Lib.hid bn; have HX := Lib.hid hxt
      have hsz : B ≤ wr.heap.size := by rw [HB.out]; exact hxt.size
      clear nx bn hx hxt
      go_wp2_with (at_builtin; refine wpList_append_own _ rfl _ _ 42 rfl B 5 i0 (.int .u8 0) 1 1 Try.underlying42 hi hz0 hz1 hz2 rfl (by decide) _ _ _ rfl (hown.alloc _) ⟨wr.heap.size, 0, none⟩ 1 1 [.int .u8 (x % 256)] rfl rfl ?c1 ?c2 ?c3 ?c4 ?c5 ?_)
      case c1 =>
        intro j v hj
        rcases j with _ | j
        · simp at hj; subst hj; go_simp
        · simp at hj
      case c2 => simp [Value.oneCell']
      case c3 => unfold maxLen; omega
      case c4 => omega
      case c5 => simp; omega
      intro v' w1 hown' hgrow _
      rw [BN.out] at hown'
      have hx2 : Ext w w1 := Below.grown (HX.out.alloc _) hgrow (HX.out.alloc _).size (fun j hj => by have := (hown.lt j hj).1; rw [HB.out] at this; exact this)
      have HX2 := Lib.hid hx2
      have HO := Lib.hid hown'
      clear hx2 hown' hgrow hown
      go_wp2_with fail
      go_roundw
      case rel => exact ⟨k + 1, _, by go_num, by omega, rfl, by omega, by omega, NX.out, HO.out, HX2.out⟩
      case measure => simp [intOf]; omega
    · obtain rfl : k = 8 := by omega
      have hs := own_string hown (by omega)
      clear hx hown
      go_wp2_with fail
      go_ret
      exact ⟨rfl, hxt⟩
/-- What Mix answers. -/
def mixN (a b : Nat) : Nat := hashN (lit a 8 ++ lit b 8)
/-- additive/sum.Mix -/
theorem sum_Mix (a b : Nat) (ha : a < 18446744073709551616) (hb : b < 18446744073709551616) (w : World) :
    Calls Try.prog 18 #[.int .u64 (a : Int), .int .u64 (b : Int)] w fun e w' => e = .returned (.int .u64 (mixN a b : Int)) ∧ Ext w w' := by
  have ca := Lib.hid fun w => sum_little a ha w
  have cb := Lib.hid fun w => sum_little b hb w
  have ap := str_app (lit a 8) (lit b 8)
  have l1 : (⟨(lit a 8).toArray⟩ : ByteArray).size = 8 := by show (lit a 8).toArray.size = 8; simp [lit_len]
  have l2 : (⟨(lit b 8).toArray⟩ : ByteArray).size = 8 := by show (lit b 8).toArray.size = 8; simp [lit_len]
  have l3 : (⟨(lit a 8 ++ lit b 8).toArray⟩ : ByteArray).size = 16 := by show (lit a 8 ++ lit b 8).toArray.size = 16; simp [lit_len]
  have ch := fun w => sum_Hash ⟨(lit a 8 ++ lit b 8).toArray⟩ (by omega) w
  rw [show (⟨(lit a 8 ++ lit b 8).toArray⟩ : ByteArray).data.toList = lit a 8 ++ lit b 8 by simp] at ch
  have hm : hashN (lit a 8 ++ lit b 8) = mixN a b := rfl
  rw [hm] at ch
  clear hm
  have a2 : (a : Int) < 18446744073709551616 := by omega
  have b2 : (b : Int) < 18446744073709551616 := by omega
  generalize (⟨(lit a 8 ++ lit b 8).toArray⟩ : ByteArray) = t at *
  generalize (⟨(lit a 8).toArray⟩ : ByteArray) = p at *
  generalize (⟨(lit b 8).toArray⟩ : ByteArray) = q at *
  have CH := Lib.hid ch
  have p2 : p.size ≤ 8 := by omega
  have q2 : q.size ≤ 8 := by omega
  clear ha hb ch l1 l2 l3
  go_enter Try.func18, Try.ntmps18
  go_wp2_with fail
  refine (ca.out _).mono ?_; rintro e w1 ⟨rfl, h1⟩
  go_wp2_with fail
  refine (cb.out _).mono ?_; rintro e w2 ⟨rfl, h2⟩
  go_wp2_with fail
  all_goals first
    | (exfalso; omega)
    | (refine (CH.out _).mono ?_; rintro e w' ⟨rfl, rfl⟩
       go_wp2_with fail
       go_ret
       exact ⟨rfl, h1.trans h2⟩)
/-- additive/additiveref03.Mix -/
theorem ref_Mix (a b : Nat) (ha : a < 18446744073709551616) (hb : b < 18446744073709551616) (w : World) :
    Calls Try.prog 19 #[.int .u64 (a : Int), .int .u64 (b : Int)] w fun e w' => e = .returned (.int .u64 (mixN a b : Int)) ∧ Ext w w' := by
  have ca := Lib.hid fun w => ref_little a ha w
  have cb := Lib.hid fun w => ref_little b hb w
  have ap := str_app (lit a 8) (lit b 8)
  have l1 : (⟨(lit a 8).toArray⟩ : ByteArray).size = 8 := by show (lit a 8).toArray.size = 8; simp [lit_len]
  have l2 : (⟨(lit b 8).toArray⟩ : ByteArray).size = 8 := by show (lit b 8).toArray.size = 8; simp [lit_len]
  have l3 : (⟨(lit a 8 ++ lit b 8).toArray⟩ : ByteArray).size = 16 := by show (lit a 8 ++ lit b 8).toArray.size = 16; simp [lit_len]
  have ch := fun w => ref_Hash ⟨(lit a 8 ++ lit b 8).toArray⟩ (by omega) w
  rw [show (⟨(lit a 8 ++ lit b 8).toArray⟩ : ByteArray).data.toList = lit a 8 ++ lit b 8 by simp] at ch
  have hm : hashN (lit a 8 ++ lit b 8) = mixN a b := rfl
  rw [hm] at ch
  clear hm
  have a2 : (a : Int) < 18446744073709551616 := by omega
  have b2 : (b : Int) < 18446744073709551616 := by omega
  generalize (⟨(lit a 8 ++ lit b 8).toArray⟩ : ByteArray) = t at *
  generalize (⟨(lit a 8).toArray⟩ : ByteArray) = p at *
  generalize (⟨(lit b 8).toArray⟩ : ByteArray) = q at *
  have CH := Lib.hid ch
  have p2 : p.size ≤ 8 := by omega
  have q2 : q.size ≤ 8 := by omega
  clear ha hb ch l1 l2 l3
  go_enter Try.func19, Try.ntmps19
  go_wp2_with fail
  refine (ca.out _).mono ?_; rintro e w1 ⟨rfl, h1⟩
  go_wp2_with fail
  refine (cb.out _).mono ?_; rintro e w2 ⟨rfl, h2⟩
  go_wp2_with fail
  all_goals first
    | (exfalso; omega)
    | (refine (CH.out _).mono ?_; rintro e w' ⟨rfl, rfl⟩
       go_wp2_with fail
       go_ret
       exact ⟨rfl, h1.trans h2⟩)
end Go.Proofs.Ytcjlopnaakiccaa

