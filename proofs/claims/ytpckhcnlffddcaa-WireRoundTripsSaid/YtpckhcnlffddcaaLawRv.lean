/-
  The walk of the law WireRoundTrips: it answers true.
-/
import Derived.Test.YtpckhcnlffddcaaLawRt
import Derived.Test.YtpckhcnlffddcaaLawRu
namespace Go.Proofs.Ytpckhcnlffddcaa
open Go.RowKit
set_option maxRecDepth 100000 in
set_option maxHeartbeats 2000000 in
theorem law_rt_long (F B T : ByteArray) (n k : Int) (f1 : (F.size : Int) ≤ 9223372036854775807) (b1 : (B.size : Int) ≤ 9223372036854775807) (t1 : (T.size : Int) ≤ 9223372036854775807) (h : 300 < F.size ∨ 300 < B.size ∨ 300 < T.size) (w : World) :
    Calls Try.prog 9 #[.agg #[.string F, .string B, .string T, .int .i64 n, .int .i64 k]] w fun e w' => e = .returned (.bool true) ∧ Ext w w' := by
  rcases (show (300 : Int) < F.size ∨ ((F.size : Int) ≤ 300 ∧ (300 : Int) < B.size) ∨ ((F.size : Int) ≤ 300 ∧ (B.size : Int) ≤ 300 ∧ (300 : Int) < T.size) by omega) with h1 | ⟨h1, h2⟩ | ⟨h1, h2, h3⟩
  all_goals
    clear h
    try have d1 : decide ((300 : Int) < F.size) = true := dlt_t h1
    try have d1 : decide ((300 : Int) < F.size) = false := dlt_f h1
    try have d2 : decide ((300 : Int) < B.size) = true := dlt_t h2
    try have d2 : decide ((300 : Int) < B.size) = false := dlt_f h2
    try have d3 : decide ((300 : Int) < T.size) = true := dlt_t h3
    go_enter Try.func9, Try.ntmps9
    go_wp2_with fail
    refine (law_awake _).mono ?_; rintro e w9 ⟨rfl, h9⟩
    go_wp2_with fail
    go_ret
    exact ⟨rfl, ((Ext.refl _).alloc _).trans h9⟩
theorem law_WireRoundTrips (F : ByteArray) (hF : F.size ≤ maxLen) (B : ByteArray) (hB : B.size ≤ maxLen) (T : ByteArray) (hT : T.size ≤ maxLen) (n k : Int) (n0 : -9223372036854775808 ≤ n) (n1 : n ≤ 9223372036854775807) (w : World) :
    Calls Try.prog 9 #[.agg #[.string F, .string B, .string T, .int .i64 n, .int .i64 k]] w fun e w' => e = .returned (.bool true) ∧ Ext w w' := by
  unfold maxLen at hF hB hT
  by_cases h : 300 < F.size ∨ 300 < B.size ∨ 300 < T.size
  · exact law_rt_long F B T n k (by omega) (by omega) (by omega) h w
  have f3 : F.size ≤ 300 := by omega
  have b3 : B.size ≤ 300 := by omega
  have t3 : T.size ≤ 300 := by omega
  obtain ⟨⟨l1, e1⟩, ha⟩ : ∃ p, uintS n k = p := ⟨_, rfl⟩
  obtain ⟨⟨l2, e2⟩, hb⟩ : ∃ p, intS n k = p := ⟨_, rfl⟩
  obtain ⟨⟨n3, j3, e3⟩, hc⟩ : ∃ p, takeU B.data.toList 0 k = p := ⟨_, rfl⟩
  obtain ⟨⟨n4, j4, e4⟩, hd⟩ : ∃ p, takeI B.data.toList 0 k = p := ⟨_, rfl⟩
  have za : e1 ≠ 0 → l1 = [] := by
    intro h1
    unfold uintS at ha
    split at ha
    · split at ha
      · injection ha with h2 _; exact h2.symm
      · injection ha with _ h2; exact absurd h2.symm h1
    · injection ha with h2 _; exact h2.symm
  have zb : e2 ≠ 0 → l2 = [] := by
    intro h1
    unfold intS at hb
    split at hb
    · split at hb
      · injection hb with h2 _; exact h2.symm
      · injection hb with _ h2; exact absurd h2.symm h1
    · injection hb with h2 _; exact h2.symm
  by_cases i1 : e1 = 0
  · subst i1
    by_cases i2 : e2 = 0
    · subst i2
      by_cases i3 : e3 = 0
      · subst i3
        by_cases i4 : e4 = 0
        · subst i4
          exact law_rt_1111 F B T n k n0 n1 f3 b3 t3 l1 ha l2 hb n3 j3 hc n4 j4 hd w
        ·
          exact law_rt_1110 F B T n k n0 n1 f3 b3 t3 l1 ha l2 hb n3 j3 hc n4 j4 e4 i4 hd w
      ·
        by_cases i4 : e4 = 0
        · subst i4
          exact law_rt_1101 F B T n k n0 n1 f3 b3 t3 l1 ha l2 hb n3 j3 e3 i3 hc n4 j4 hd w
        ·
          exact law_rt_1100 F B T n k n0 n1 f3 b3 t3 l1 ha l2 hb n3 j3 e3 i3 hc n4 j4 e4 i4 hd w
    ·
      obtain rfl := zb i2
      by_cases i3 : e3 = 0
      · subst i3
        by_cases i4 : e4 = 0
        · subst i4
          exact law_rt_1011 F B T n k n0 n1 f3 b3 t3 l1 ha e2 i2 hb n3 j3 hc n4 j4 hd w
        ·
          exact law_rt_1010 F B T n k n0 n1 f3 b3 t3 l1 ha e2 i2 hb n3 j3 hc n4 j4 e4 i4 hd w
      ·
        by_cases i4 : e4 = 0
        · subst i4
          exact law_rt_1001 F B T n k n0 n1 f3 b3 t3 l1 ha e2 i2 hb n3 j3 e3 i3 hc n4 j4 hd w
        ·
          exact law_rt_1000 F B T n k n0 n1 f3 b3 t3 l1 ha e2 i2 hb n3 j3 e3 i3 hc n4 j4 e4 i4 hd w
  ·
    obtain rfl := za i1
    by_cases i2 : e2 = 0
    · subst i2
      by_cases i3 : e3 = 0
      · subst i3
        by_cases i4 : e4 = 0
        · subst i4
          exact law_rt_0111 F B T n k n0 n1 f3 b3 t3 e1 i1 ha l2 hb n3 j3 hc n4 j4 hd w
        ·
          exact law_rt_0110 F B T n k n0 n1 f3 b3 t3 e1 i1 ha l2 hb n3 j3 hc n4 j4 e4 i4 hd w
      ·
        by_cases i4 : e4 = 0
        · subst i4
          exact law_rt_0101 F B T n k n0 n1 f3 b3 t3 e1 i1 ha l2 hb n3 j3 e3 i3 hc n4 j4 hd w
        ·
          exact law_rt_0100 F B T n k n0 n1 f3 b3 t3 e1 i1 ha l2 hb n3 j3 e3 i3 hc n4 j4 e4 i4 hd w
    ·
      obtain rfl := zb i2
      by_cases i3 : e3 = 0
      · subst i3
        by_cases i4 : e4 = 0
        · subst i4
          exact law_rt_0011 F B T n k n0 n1 f3 b3 t3 e1 i1 ha e2 i2 hb n3 j3 hc n4 j4 hd w
        ·
          exact law_rt_0010 F B T n k n0 n1 f3 b3 t3 e1 i1 ha e2 i2 hb n3 j3 hc n4 j4 e4 i4 hd w
      ·
        by_cases i4 : e4 = 0
        · subst i4
          exact law_rt_0001 F B T n k n0 n1 f3 b3 t3 e1 i1 ha e2 i2 hb n3 j3 e3 i3 hc n4 j4 hd w
        ·
          exact law_rt_0000 F B T n k n0 n1 f3 b3 t3 e1 i1 ha e2 i2 hb n3 j3 e3 i3 hc n4 j4 e4 i4 hd w
end Go.Proofs.Ytpckhcnlffddcaa

