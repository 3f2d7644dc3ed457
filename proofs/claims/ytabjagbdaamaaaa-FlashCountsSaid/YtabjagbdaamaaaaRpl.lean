/-
  Layer 51: the page that is left when a beginning of it is written anew.
-/
import Derived.Test.YtabjagbdaamaaaaFld
import Derived.Lib.ConvBytes
import Derived.Lib.LazyBuf
import Derived.Laws.IdiomStrings
import Derived.ProofKit
import Derived.Lib.Hide
namespace Go.Proofs.Ytabjagbdaamaaaa
open Go.RowKit
theorem at_bytes (s : ByteArray) (j : Nat) (hj : j < s.size) : s.data.toList[j]? = some s[j] := by
  have : j < s.data.toList.length := by simpa using hj
  rw [List.getElem?_eq_getElem this]; rfl
theorem from_string (w : World) (s : ByteArray) : ∃ W1 c, (convert 9 49 (.string s)).run Try.prog w = .ok (.slice (some ⟨w.heap.size, 0, none⟩) s.size c) W1 ∧
    (∀ j, (hj : j < s.size) → W1.cell? ⟨w.heap.size, j, none⟩ = some (.int .u8 (s[j].toNat : Int))) ∧ (∀ j, j < s.size → W1.frozen? ⟨w.heap.size, j, none⟩ = false) ∧ W1.heap.size = w.heap.size + 1 ∧ Ext w W1 ∧ s.size ≤ c := by
  refine ⟨Lib.bytesWorld w 5 s, _, Lib.run_convert_string_bytes (u := .string) w 9 49 5 s (by kernel_rfl) (by kernel_rfl) (by kernel_rfl), fun j hj => ?_, fun j hj => ?_, Lib.bytesWorld_size _ _ _, ?_, grownCap_ge _ _ _ _⟩
  · rw [Lib.bytesWorld_cell w _ s j hj]
    have : s.data.toList[j]? = some s[j] := at_bytes s j hj
    rw [List.getD, this]; rfl
  · have hs : j < (Lib.bytesCells w 5 s).size := by
      have : s.data.size = s.size := rfl
      simp [Lib.bytesCells]; omega
    simp only [World.frozen?, Lib.bytesWorld_at_new]
    simp; omega
  · exact ⟨rfl, rfl, rfl, by rw [Lib.bytesWorld_size]; omega, fun k hk => Lib.bytesWorld_at_old w _ s k hk⟩
/-- flash.replaced -/
theorem rpl_calls (p d : ByteArray) (h : d.size ≤ p.size) (w : World) : Calls Try.prog 32 #[.string p, .string d] w fun e w' => e = .returned (.string (rpl p d)) ∧ Ext w w' := by
  obtain ⟨W1, c, hrun, hcell, hfz, hz, ext, hc⟩ := from_string w p
  have hsz : ∀ w, (sizeOf 5).run Try.prog w = .ok 1 w := fun w => by kernel_rfl
  have hcp : (Builtin.copy_ #[49, 9] 3 #[.slice (some ⟨w.heap.size, 0, none⟩) p.size c, .string d]).run Try.prog W1 = .ok (goInt d.size) (W1.setCells w.heap.size 0 (d.data.toList.map fun x => Value.int .u8 (x.toNat : Int))) :=
    run_copy_string (P := Try.prog) W1 49 9 3 5 w.heap.size 0 p.size c d (by kernel_rfl) hsz h (fun j hj => by rw [Nat.zero_add, hcell j (by omega)]; rfl) (fun j hj => by rw [Nat.zero_add]; exact hfz j (by omega))
  have hx2 : Ext w (W1.setCells w.heap.size 0 (d.data.toList.map fun x => Value.int .u8 (x.toNat : Int))) := below_setCells (Nat.le_refl _) _ _ _ ext
  have hl : (d.data.toList ++ p.data.toList.drop d.size).length = p.size := by simp; omega
  have hback : (convert 49 9 (.slice (some ⟨w.heap.size, 0, none⟩) p.size c)).run Try.prog (W1.setCells w.heap.size 0 (d.data.toList.map fun x => Value.int .u8 (x.toNat : Int))) = .ok (.string (rpl p d)) (W1.setCells w.heap.size 0 (d.data.toList.map fun x => Value.int .u8 (x.toNat : Int))) := by
    have := run_convert_bytes_back (P := Try.prog) (W1.setCells w.heap.size 0 (d.data.toList.map fun x => Value.int .u8 (x.toNat : Int))) 49 9 5 ⟨w.heap.size, 0, none⟩ c (d.data.toList ++ p.data.toList.drop d.size) (by kernel_rfl) (by kernel_rfl) (by kernel_rfl) (by
      intro j hj
      have hj' : j < p.size := by omega
      rw [show (⟨w.heap.size, 0, none⟩ : Addr).add j = ⟨w.heap.size, j, none⟩ by simp [Addr.add]; exact fun e => e.symm]
      by_cases e : j < d.size
      · have := World.cell?_setCells_in w.heap.size (d.data.toList.map fun x => Value.int .u8 (x.toNat : Int)) 0 W1 (fun q hq => by rw [Nat.zero_add, hcell q (by simp at hq; omega)]; rfl) j (by simpa using e)
        rw [Nat.zero_add] at this
        rw [this]
        simp [List.getElem_append, e]
      · rw [World.cell?_setCells_out _ _ _ _ _ (fun _ => by simp; omega), hcell j hj']
        have : (d.data.toList ++ p.data.toList.drop d.size)[j] = p[j] := by
          rw [List.getElem_append_right (by simp; omega)]
          simp [show d.size + (j - d.size) = j by omega]
          rfl
        rw [this])
    rw [hl] at this
    exact this
  have X2 := Lib.hid hx2
  clear hcell hfz ext hx2
  generalize W1.setCells w.heap.size 0 (d.data.toList.map fun x => Value.int .u8 (x.toNat : Int)) = W2 at *
  go_enter Try.func32, Try.ntmps32
  go_wp2_with fail
  go_ret
  exact ⟨rfl, X2.out⟩
end Go.Proofs.Ytabjagbdaamaaaa

