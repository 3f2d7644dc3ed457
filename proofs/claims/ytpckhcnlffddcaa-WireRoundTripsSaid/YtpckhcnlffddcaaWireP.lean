/-
  Contracts of package wire's own parts: the check of a width, the encoding into the call's own room, the number of some bytes of a string.
-/
import Derived.Test.YtpckhcnlffddcaaRefY
import Derived.Laws.CopyRow
namespace Go.Proofs.Ytpckhcnlffddcaa
open Go.RowKit
theorem wire_valid_t (n : Int) (h1 : 1 ≤ n) (h2 : n ≤ 8) (w : World) : Calls Try.prog 26 #[.int .i64 n] w fun e w' => e = .returned (.bool true) ∧ w = w' := by
  have d := dle_t h1
  have d2 := dle_t h2
  go_enter Try.func26, Try.ntmps26
  go_wp2_with fail
  go_ret
  exact ⟨rfl, rfl⟩
theorem wire_valid_f (n : Int) (h : ¬ (1 ≤ n ∧ n ≤ 8)) (w : World) : Calls Try.prog 26 #[.int .i64 n] w fun e w' => e = .returned (.bool false) ∧ w = w' := by
  rcases (show n < 1 ∨ (1 ≤ n ∧ 8 < n) by omega) with h | ⟨h1, h2⟩
  · have d := dle_f h
    go_enter Try.func26, Try.ntmps26
    go_wp2_with fail
    go_ret
    exact ⟨rfl, rfl⟩
  · have d := dle_t h1
    have d2 := dle_f h2
    go_enter Try.func26, Try.ntmps26
    go_wp2_with fail
    go_ret
    exact ⟨rfl, rfl⟩
theorem enc_cons (u w : Nat) : enc u (w + 1) = UInt8.ofNat (u / 256 ^ w % 256) :: enc u w := by
  induction w generalizing u with
  | zero => simp [enc]
  | succ w ih =>
    rw [enc, ih, Nat.div_div_eq_div_mul, show 256 * 256 ^ w = 256 ^ (w + 1) by rw [Nat.pow_succ, Nat.mul_comm]]
    rfl
/-- Block B is the call's own room, whose first bytes are l. -/
def Room (w : World) (B : Nat) (l : List UInt8) : Prop := ∃ cur, w.heap[B]? = some (.cells cur 51 (0, 0)) ∧ cur.size = 8 ∧ cur.toList.take l.length = bv l
theorem room_new (w : World) (l : Array Value) (h : l.size = 8) : Room (w.alloc (.cells l 51)) w.heap.size [] := ⟨l, heap_alloc_new w _, h, rfl⟩
theorem room_append (w : World) (B k c : Nat) (l : List UInt8) (b : UInt8) (h : Room w B l) (hk : l.length = k) (hc : k + 1 ≤ c) (h8 : c ≤ 8) (C : Nat) (x : Value) (hx : x = .int .u8 (b.toNat : Int)) (hcell : w.cell? ⟨C, 0, none⟩ = some x) (ty : TypeId) :
    ∃ w', (Builtin.append_ #[33, 33] ty #[.slice (some ⟨B, 0, none⟩) k c, .slice (some ⟨C, 0, none⟩) 1 1]).run Try.prog w = .ok (.slice (some ⟨B, 0, none⟩) (k + 1) c) w' ∧ Room w' B (l ++ [b]) ∧ Below B w w' := by
  obtain ⟨i, hi, _, hz1, _⟩ := info_parts infoB
  obtain ⟨cur, hg, hs, ht⟩ := h
  subst hx
  have hf := run_firstCells_some (P := Try.prog) w i.size 1 ⟨C, 0, none⟩ 1 1 [.int .u8 (b.toNat : Int)] (by simp [hz1]) (by
    intro j u hj
    rcases j with _ | j
    · simp at hj; subst hj; rw [show (⟨C, 0, none⟩ : Addr).add 0 = ⟨C, 0, none⟩ by simp [Addr.add]]; exact hcell
    · simp at hj)
  have hst := run_storeCells_at Try.prog B (k * i.size) 51 [.int .u8 (b.toNat : Int)] 0 cur w hg (by simp [hz1]; omega) (by simp [Value.oneCell'])
  simp only [Nat.add_zero] at hst
  rw [hz1, Nat.mul_one] at hst
  rw [hz1] at hf
  refine ⟨w.setRow B (cur.toList.take k ++ [Value.int .u8 (b.toNat : Int)] ++ cur.toList.drop (k + 1)).toArray, ?_, ⟨_, setRow_heap w B cur _ _ _ hg, ?_, ?_⟩, ?_⟩
  · simp only [List.length_singleton] at hst
    simp [Builtin.append_, run_underlying (show Try.prog.underlying 33 = some (.slice 5) by kernel_rfl), sizeOf, typeInfo, hi, hz1, Builtin.lenOf, hc, hf, Addr.add_lit] at hst ⊢
    rw [hst]
    rfl
  · simp; omega
  · subst hk
    rw [List.length_append, List.length_singleton, bv_append, ← ht, List.append_assoc, List.take_append, List.take_of_length_le (by simp; omega)]
    have e : min l.length cur.size = l.length := by omega
    simp [bv, e]
  · refine ⟨rfl, rfl, rfl, by simp, fun j hj => setRow_other w B j _ (by omega)⟩
theorem Room.string {w : World} {B n c : Nat} {l : List UInt8} (h : Room w B l) (hl : l.length = n) :
    (convert 33 9 (.slice (some ⟨B, 0, none⟩) n c)).run Try.prog w = .ok (.string ⟨l.toArray⟩) w := by
  obtain ⟨cur, hg, hs, ht⟩ := h
  rw [run_convert_bytes_string _ _ _ 5 _ _ _ (by kernel_rfl) (by kernel_rfl) (by kernel_rfl)]
  have hc := run_loadCells_list (P := Try.prog) (w := w) ⟨B, 0, none⟩ (bv l) (by
    intro j v hj
    rw [show (⟨B, 0, none⟩ : Addr).add j = ⟨B, j, none⟩ by simp [Addr.add]; exact fun e => e.symm, cell_of_row w B j cur _ (0, 0) hg]
    have hjl := (List.getElem?_eq_some_iff.1 hj).1
    rw [bv_len] at hjl
    rw [← hj, ← ht, List.getElem?_take, if_pos hjl, Array.getElem?_toList])
  rw [bv_len, hl] at hc
  have e : bv l = (l.map fun c => (c.toNat : Int)).map (Value.int .u8) := by simp [bv]
  rw [e] at hc
  rw [run_bytesToString _ _ n c _ hc]
  rw [fold_push]
theorem Room.ext {w w1 : World} {B : Nat} {l : List UInt8} (h : Room w B l) (e : ∀ k, k < w.heap.size → w1.heap[k]? = w.heap[k]?) : Room w1 B l := by
  obtain ⟨cur, hg, hs, ht⟩ := h
  refine ⟨cur, ?_, hs, ht⟩
  rw [e B (by
    rcases Nat.lt_or_ge B w.heap.size with h' | h'
    · exact h'
    · rw [Array.getElem?_eq_none h'] at hg; cases hg)]
  exact hg
theorem room_byte (n : Int) (a : Nat) (ha : a < 8) : ((UInt8.ofNat ((n % 18446744073709551616).toNat / 256 ^ a % 256)).toNat : Int) = n / 256 ^ a % 256 := by
  rw [byte_toNat]
  rcases (show a = 0 ∨ a = 1 ∨ a = 2 ∨ a = 3 ∨ a = 4 ∨ a = 5 ∨ a = 6 ∨ a = 7 by omega) with rfl | rfl | rfl | rfl | rfl | rfl | rfl | rfl <;> simp only [Nat.reducePow, Int.reducePow] <;> omega
theorem Room.cell {w : World} {B : Nat} {l : List UInt8} (h : Room w B l) (j : Nat) (hj : j < 8) : (∃ x, w.cell? ⟨B, j, none⟩ = some x) ∧ w.frozen? ⟨B, j, none⟩ = false ∧ B < w.heap.size := by
  obtain ⟨cur, hg, hs, ht⟩ := h
  refine ⟨⟨cur[j]'(by omega), ?_⟩, ?_, (Array.getElem?_eq_some_iff.1 hg).1⟩
  · rw [cell_of_row w B j cur _ (0, 0) hg]; exact Array.getElem?_eq_getElem (by omega)
  · simp [World.frozen?, hg]
theorem Room.store {w : World} {B : Nat} {l : List UInt8} (h : Room w B l) (hj : l.length < 8) (b : UInt8) (o : Obj) : Room ((w.setCell ⟨B, l.length, none⟩ (.int .u8 (b.toNat : Int))).alloc o) B (l ++ [b]) := by
  have hlt := (h.cell 0 (by omega)).2.2
  obtain ⟨cur, hg, hs, ht⟩ := h
  refine ⟨cur.setIfInBounds l.length (.int .u8 (b.toNat : Int)), ?_, by simp [hs], ?_⟩
  · rw [Below.heap_alloc _ o B (by simpa [World.setCell] using hlt)]
    simp [World.setCell, Array.getElem?_modify, hg]
  · rw [List.length_append, List.length_singleton, Array.toList_setIfInBounds, bv_append, ← ht, List.take_add_one, List.take_set_of_le (Nat.le_refl _), List.getElem?_set_self (by simp; omega)]
    rfl
set_option maxHeartbeats 1000000 in
/-- additive/wire.encode: the lowest bytes of n, so many, the most significant one first. -/
theorem wire_encode (n : Int) (width : Nat) (hn : width ≤ 8) (w : World) :
    Calls Try.prog 27 #[.int .i64 n, .int .i64 (width : Int)] w fun e w' => e = .returned (.string ⟨(enc (n % 18446744073709551616).toNat width).toArray⟩) ∧ Ext w w' := by
  obtain ⟨T, hT⟩ : ∃ T, enc (n % 18446744073709551616).toNat width = T := ⟨_, rfl⟩
  rw [hT]
  have HT := Lib.hid hT
  clear hT
  have nI : (width : Int) ≤ 8 := by omega
  obtain ⟨B, hB⟩ : ∃ B, w.heap.size = B := ⟨_, rfl⟩
  have R0 := room_new w #[Value.int IntKind.u8 0, Value.int IntKind.u8 0, Value.int IntKind.u8 0, Value.int IntKind.u8 0, Value.int IntKind.u8 0, Value.int IntKind.u8 0, Value.int IntKind.u8 0, Value.int IntKind.u8 0] rfl
  rw [hB] at R0
  have HR0 := Lib.hid R0
  have HB := Lib.hid hB
  clear R0
  go_enter Try.func27, Try.ntmps27
  go_wp2_with fail
  go_loopw [6, 7] (fun c i wr => ∃ (k m : Nat) (l : List UInt8), c = .slice (some ⟨B, 0, none⟩) m width ∧ i = .int .i64 ((k : Int) - 1) ∧ m + k = width ∧ l.length = m ∧ l ++ enc (n % 18446744073709551616).toNat k = T ∧ Room wr B l ∧ Ext w wr) (fun _ i _ => (intOf i + 1).toNat)
  case atStart => exact ⟨width, 0, [], rfl, rfl, by omega, rfl, HT.out, HR0.out, (Ext.refl _).alloc _⟩
  case round =>
    obtain ⟨k, m, l, rfl, rfl, hkm, hl, hT, hR, hx⟩ := hrel
    rcases (show k = 0 ∨ ∃ j, k = j + 1 by cases k with | zero => exact .inl rfl | succ j => exact .inr ⟨j, rfl⟩) with hk0 | ⟨j, hj⟩
    · subst hk0
      have hs := hR.string (c := width) hl
      have HT2 : Hid (l = T) := Lib.hid (by rw [← hT]; exact (List.append_nil _).symm)
      clear hT hR HT hl hkm
      go_wp2_with fail
      go_ret
      exact ⟨congrArg (fun l : List UInt8 => Ending.returned (Value.string ⟨l.toArray⟩)) HT2.out, hx⟩
    · subst hj
      have jn : (j : Int) ≤ 7 := by omega
      have jn0 : 0 ≤ 8 * (j : Int) := by omega
      have ji : ((j + 1 : Nat) : Int) - 1 = j := by omega
      rw [ji]
      obtain ⟨⟨x, c1⟩, c2, c3⟩ := hR.cell m (by omega)
      have hm : m + 1 ≤ width := by omega
      have hb := room_byte n j (by omega)
      have st := hR.store (by omega) (UInt8.ofNat ((n % 18446744073709551616).toNat / 256 ^ j % 256)) (.cells #[.int .u8 ((UInt8.ofNat ((n % 18446744073709551616).toNat / 256 ^ j % 256)).toNat : Int)] 5)
      rw [hb, hl] at st
      have hp : (256 : Int) ^ j = 2 ^ (8 * j) := by rw [Int.pow_mul]; rfl
      rw [hp] at st
      have en : (l ++ [UInt8.ofNat ((n % 18446744073709551616).toNat / 256 ^ j % 256)]) ++ enc (n % 18446744073709551616).toNat j = T := by
        rw [← hT, enc_cons, List.append_assoc]; rfl
      have bx : Ext w ((wr.setCell ⟨B, m, none⟩ (.int .u8 (n / 2 ^ (8 * j) % 256))).alloc (.cells #[.int .u8 (n / 2 ^ (8 * j) % 256)] 5)) := Ext.alloc (Below.setCell hx (by rw [HB.out]; exact Nat.le_refl _) _) _
      have ST := Lib.hid st; have EN := Lib.hid en; have BX := Lib.hid bx; have HL := Lib.hid hl; have HK := Lib.hid hkm
      clear ji hb hp st en bx hT hR hx hl hkm HT
      go_wp2_with fail
      go_roundw
      case rel => exact ⟨j, m + 1, _, rfl, rfl, by have := HK.out; omega, by rw [List.length_append, HL.out]; rfl, EN.out, ST.out, BX.out⟩
      case measure => simp [intOf] <;> omega
end Go.Proofs.Ytpckhcnlffddcaa
