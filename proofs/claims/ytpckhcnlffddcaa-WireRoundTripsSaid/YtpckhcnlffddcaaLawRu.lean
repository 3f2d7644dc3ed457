/-
  The walk of the law WireRoundTrips: the cases where the number fits without a sign.
-/
import Derived.Test.YtpckhcnlffddcaaLawRw
namespace Go.Proofs.Ytpckhcnlffddcaa
open Go.RowKit
set_option maxRecDepth 100000 in
set_option maxHeartbeats 8000000 in
theorem law_rt_1000 (F B T : ByteArray) (n k : Int) (n0 : -9223372036854775808 ≤ n) (n1 : n ≤ 9223372036854775807) (f3 : F.size ≤ 300) (b3 : B.size ≤ 300) (t3 : T.size ≤ 300) (l1 : List UInt8) (ha : uintS n k = (l1, 0)) (e2 : Int) (h2 : e2 ≠ 0) (hb : intS n k = ([], e2)) (x3 y3 e3 : Int) (h3 : e3 ≠ 0) (hc : takeU B.data.toList 0 k = (x3, y3, e3)) (x4 y4 e4 : Int) (h4 : e4 ≠ 0) (hd : takeI B.data.toList 0 k = (x4, y4, e4)) (w : World) :
    Calls Try.prog 9 #[.agg #[.string F, .string B, .string T, .int .i64 n, .int .i64 k]] w fun e w' => e = .returned (.bool true) ∧ Ext w w' := by
  have CU := fun w => wire_Uint n k n0 n1 w
  have CI := fun w => wire_Int n k n0 n1 w
  have CT := fun w => wire_Text T (by omega) w
  have CB := fun w => wire_TakeUint B 0 k (by omega) w
  have CD := fun w => wire_TakeInt B 0 k (by omega) w
  rw [ha] at CU
  rw [hb] at CI
  rw [hc] at CB
  rw [hd] at CD
  unfold ResS at CU CI CT
  unfold Res3 at CB CD
  dsimp only at CU CI CB CD
  obtain ⟨tt, htt⟩ : ∃ tt, textS T.data.toList = (tt, 0) := ⟨enc T.data.toList.length 2 ++ T.data.toList, by unfold textS; rw [if_neg (by rw [wlen]; omega)]⟩
  rw [htt] at CT
  dsimp only at CT
  obtain ⟨rtt, tl⟩ := rt_text F.data.toList B.data.toList T.data.toList tt (by rw [wlen]; omega) htt
  obtain ⟨xt, hxt, dxt, sxt⟩ := cat3 F B tt
  have st := str_size tt
  have TT := fun w => wire_TakeText xt F.size T.size (by rw [wlen] at tl; omega) w
  rw [← wlen F, ← wlen T, dxt, rtt, wlen, wlen] at TT
  unfold ResSI at TT
  dsimp only at TT
  rw [show (⟨T.data.toList.toArray⟩ : ByteArray) = T by simp] at TT
  rw [wlen] at tl
  rw [← st] at TT sxt tl
  obtain ⟨ut, hut⟩ : ∃ u : ByteArray, (⟨tt.toArray⟩ : ByteArray) = u := ⟨_, rfl⟩
  rw [hut] at CT TT hxt tl sxt
  obtain ⟨rr1, ll1, kk1, kk8⟩ := rt_uint F.data.toList B.data.toList l1 n k n1 ha
  obtain ⟨x1, hx1, dx1, sx1⟩ := cat3 F B l1
  have s1 := str_size l1
  have T1 := fun w => wire_TakeUint x1 F.size k (by omega) w
  rw [← wlen F, dx1, rr1, wlen] at T1
  unfold Res3 at T1
  dsimp only at T1
  rw [← s1] at T1 sx1 ll1
  obtain ⟨u1, hu1⟩ : ∃ u : ByteArray, (⟨l1.toArray⟩ : ByteArray) = u := ⟨_, rfl⟩
  rw [hu1] at CU T1 hx1 ll1 sx1
  have TH1 := Lib.hid T1
  have z1 : (u1.size : Int) ≤ 8 := by omega
  have zn1 : u1.size ≤ 8 := by omega
  have d2 := beq_f h2
  have d3 := beq_f h3
  have d4 := beq_f h4
  have HU := Lib.hid CU; have HI := Lib.hid CI; have HT := Lib.hid CT; have HB := Lib.hid CB; have HD := Lib.hid CD; have HTT := Lib.hid TT
  have f4 : (F.size : Int) ≤ 300 := by omega
  have b4 : (B.size : Int) ≤ 300 := by omega
  have t4 : (T.size : Int) ≤ 300 := by omega
  have zt : (ut.size : Int) ≤ 302 := by omega
  have ztn : ut.size ≤ 302 := by omega
  have df : decide ((300 : Int) < F.size) = false := dlt_f f4
  have db : decide ((300 : Int) < B.size) = false := dlt_f b4
  have dt : decide ((300 : Int) < T.size) = false := dlt_f t4
  obtain ⟨W, hW, hx, K0⟩ := heldF_new w F B T n k 38
  have Y0 := Lib.hid hx
  clear CU CI CT CB CD TT ha hb hc hd htt rtt tl dxt sxt st hut hx n0 n1 rr1 ll1 kk1 kk8 dx1 sx1 s1 T1 hu1 h2 h3 h4
  go_enter Try.func9, Try.ntmps9
  go_wp2_with fail
  clear hW
  refine (HU.out _).mono ?_; rintro e v1 ⟨rfl, g1⟩
  have K1 := heldF g1 K0
  have Y1 := Lib.hid (Y0.out.trans g1)
  clear g1 K0
  go_wp2_with fail
  all_goals (try (exfalso; omega))
  refine (TH1.out _).mono ?_; rintro e w' ⟨rfl, rfl⟩
  go_wp2_with fail
  refine (HI.out _).mono ?_; rintro e v2 ⟨rfl, g2⟩
  have K2 := heldF g2 K1
  have Y2 := Lib.hid (Y1.out.trans g2)
  clear g2 K1
  go_wp2_with fail
  refine (HT.out _).mono ?_; rintro e v3 ⟨rfl, g3⟩
  have K3 := heldF g3 K2
  have Y3 := Lib.hid (Y2.out.trans g3)
  clear g3 K2
  go_wp2_with fail
  all_goals (try (exfalso; omega))
  refine (HTT.out _).mono ?_; rintro e w' ⟨rfl, rfl⟩
  go_wp2_with fail
  refine (HB.out _).mono ?_; rintro e w' ⟨rfl, rfl⟩
  go_wp2_with fail
  refine (HD.out _).mono ?_; rintro e w' ⟨rfl, rfl⟩
  go_wp2_with fail
  refine (law_awake _).mono ?_; rintro e w9 ⟨rfl, h9⟩
  go_wp2_with fail
  go_ret
  exact ⟨rfl, Y3.out.trans h9⟩
set_option maxRecDepth 100000 in
set_option maxHeartbeats 8000000 in
theorem law_rt_1001 (F B T : ByteArray) (n k : Int) (n0 : -9223372036854775808 ≤ n) (n1 : n ≤ 9223372036854775807) (f3 : F.size ≤ 300) (b3 : B.size ≤ 300) (t3 : T.size ≤ 300) (l1 : List UInt8) (ha : uintS n k = (l1, 0)) (e2 : Int) (h2 : e2 ≠ 0) (hb : intS n k = ([], e2)) (x3 y3 e3 : Int) (h3 : e3 ≠ 0) (hc : takeU B.data.toList 0 k = (x3, y3, e3)) (n4 j4 : Int) (hd : takeI B.data.toList 0 k = (n4, j4, 0)) (w : World) :
    Calls Try.prog 9 #[.agg #[.string F, .string B, .string T, .int .i64 n, .int .i64 k]] w fun e w' => e = .returned (.bool true) ∧ Ext w w' := by
  have CU := fun w => wire_Uint n k n0 n1 w
  have CI := fun w => wire_Int n k n0 n1 w
  have CT := fun w => wire_Text T (by omega) w
  have CB := fun w => wire_TakeUint B 0 k (by omega) w
  have CD := fun w => wire_TakeInt B 0 k (by omega) w
  rw [ha] at CU
  rw [hb] at CI
  rw [hc] at CB
  rw [hd] at CD
  unfold ResS at CU CI CT
  unfold Res3 at CB CD
  dsimp only at CU CI CB CD
  obtain ⟨tt, htt⟩ : ∃ tt, textS T.data.toList = (tt, 0) := ⟨enc T.data.toList.length 2 ++ T.data.toList, by unfold textS; rw [if_neg (by rw [wlen]; omega)]⟩
  rw [htt] at CT
  dsimp only at CT
  obtain ⟨rtt, tl⟩ := rt_text F.data.toList B.data.toList T.data.toList tt (by rw [wlen]; omega) htt
  obtain ⟨xt, hxt, dxt, sxt⟩ := cat3 F B tt
  have st := str_size tt
  have TT := fun w => wire_TakeText xt F.size T.size (by rw [wlen] at tl; omega) w
  rw [← wlen F, ← wlen T, dxt, rtt, wlen, wlen] at TT
  unfold ResSI at TT
  dsimp only at TT
  rw [show (⟨T.data.toList.toArray⟩ : ByteArray) = T by simp] at TT
  rw [wlen] at tl
  rw [← st] at TT sxt tl
  obtain ⟨ut, hut⟩ : ∃ u : ByteArray, (⟨tt.toArray⟩ : ByteArray) = u := ⟨_, rfl⟩
  rw [hut] at CT TT hxt tl sxt
  obtain ⟨rr1, ll1, kk1, kk8⟩ := rt_uint F.data.toList B.data.toList l1 n k n1 ha
  obtain ⟨x1, hx1, dx1, sx1⟩ := cat3 F B l1
  have s1 := str_size l1
  have T1 := fun w => wire_TakeUint x1 F.size k (by omega) w
  rw [← wlen F, dx1, rr1, wlen] at T1
  unfold Res3 at T1
  dsimp only at T1
  rw [← s1] at T1 sx1 ll1
  obtain ⟨u1, hu1⟩ : ∃ u : ByteArray, (⟨l1.toArray⟩ : ByteArray) = u := ⟨_, rfl⟩
  rw [hu1] at CU T1 hx1 ll1 sx1
  have TH1 := Lib.hid T1
  have z1 : (u1.size : Int) ≤ 8 := by omega
  have zn1 : u1.size ≤ 8 := by omega
  have d2 := beq_f h2
  have d3 := beq_f h3
  obtain ⟨q4, j4a, j4b, m4a, m4b⟩ := rv_int B.data.toList k n4 j4 hd
  rw [wlen] at j4b
  have W4 := fun w => wire_Int n4 k (by omega) (by omega) w
  rw [q4] at W4
  unfold ResS at W4
  dsimp only at W4
  rw [← extract_front] at W4
  have sr4 := fun W => slice_to W B j4 j4a j4b
  obtain ⟨p4, hp4⟩ : ∃ p : ByteArray, B.extract 0 j4.toNat = p := ⟨_, rfl⟩
  rw [hp4] at W4 sr4
  have WH4 := Lib.hid W4
  have jd4 : decide (j4 < 0) = false := dlt_f j4a
  have je4 : decide ((B.size : Int) < j4) = false := dlt_f j4b
  have HU := Lib.hid CU; have HI := Lib.hid CI; have HT := Lib.hid CT; have HB := Lib.hid CB; have HD := Lib.hid CD; have HTT := Lib.hid TT
  have f4 : (F.size : Int) ≤ 300 := by omega
  have b4 : (B.size : Int) ≤ 300 := by omega
  have t4 : (T.size : Int) ≤ 300 := by omega
  have zt : (ut.size : Int) ≤ 302 := by omega
  have ztn : ut.size ≤ 302 := by omega
  have df : decide ((300 : Int) < F.size) = false := dlt_f f4
  have db : decide ((300 : Int) < B.size) = false := dlt_f b4
  have dt : decide ((300 : Int) < T.size) = false := dlt_f t4
  obtain ⟨W, hW, hx, K0⟩ := heldF_new w F B T n k 38
  have Y0 := Lib.hid hx
  clear CU CI CT CB CD TT ha hb hc hd htt rtt tl dxt sxt st hut hx n0 n1 rr1 ll1 kk1 kk8 dx1 sx1 s1 T1 hu1 h2 h3 q4 W4 hp4
  go_enter Try.func9, Try.ntmps9
  go_wp2_with fail
  clear hW
  refine (HU.out _).mono ?_; rintro e v1 ⟨rfl, g1⟩
  have K1 := heldF g1 K0
  have Y1 := Lib.hid (Y0.out.trans g1)
  clear g1 K0
  go_wp2_with fail
  all_goals (try (exfalso; omega))
  refine (TH1.out _).mono ?_; rintro e w' ⟨rfl, rfl⟩
  go_wp2_with fail
  refine (HI.out _).mono ?_; rintro e v2 ⟨rfl, g2⟩
  have K2 := heldF g2 K1
  have Y2 := Lib.hid (Y1.out.trans g2)
  clear g2 K1
  go_wp2_with fail
  refine (HT.out _).mono ?_; rintro e v3 ⟨rfl, g3⟩
  have K3 := heldF g3 K2
  have Y3 := Lib.hid (Y2.out.trans g3)
  clear g3 K2
  go_wp2_with fail
  all_goals (try (exfalso; omega))
  refine (HTT.out _).mono ?_; rintro e w' ⟨rfl, rfl⟩
  go_wp2_with fail
  refine (HB.out _).mono ?_; rintro e w' ⟨rfl, rfl⟩
  go_wp2_with fail
  refine (HD.out _).mono ?_; rintro e w' ⟨rfl, rfl⟩
  go_wp2_with fail
  refine (WH4.out _).mono ?_; rintro e v5 ⟨rfl, g5⟩
  have K5 := heldF g5 K3
  have Y5 := Lib.hid (Y3.out.trans g5)
  clear g5 K3
  go_wp2_with fail
  refine (law_awake _).mono ?_; rintro e w9 ⟨rfl, h9⟩
  go_wp2_with fail
  go_ret
  exact ⟨rfl, Y5.out.trans h9⟩
set_option maxRecDepth 100000 in
set_option maxHeartbeats 8000000 in
theorem law_rt_1010 (F B T : ByteArray) (n k : Int) (n0 : -9223372036854775808 ≤ n) (n1 : n ≤ 9223372036854775807) (f3 : F.size ≤ 300) (b3 : B.size ≤ 300) (t3 : T.size ≤ 300) (l1 : List UInt8) (ha : uintS n k = (l1, 0)) (e2 : Int) (h2 : e2 ≠ 0) (hb : intS n k = ([], e2)) (n3 j3 : Int) (hc : takeU B.data.toList 0 k = (n3, j3, 0)) (x4 y4 e4 : Int) (h4 : e4 ≠ 0) (hd : takeI B.data.toList 0 k = (x4, y4, e4)) (w : World) :
    Calls Try.prog 9 #[.agg #[.string F, .string B, .string T, .int .i64 n, .int .i64 k]] w fun e w' => e = .returned (.bool true) ∧ Ext w w' := by
  have CU := fun w => wire_Uint n k n0 n1 w
  have CI := fun w => wire_Int n k n0 n1 w
  have CT := fun w => wire_Text T (by omega) w
  have CB := fun w => wire_TakeUint B 0 k (by omega) w
  have CD := fun w => wire_TakeInt B 0 k (by omega) w
  rw [ha] at CU
  rw [hb] at CI
  rw [hc] at CB
  rw [hd] at CD
  unfold ResS at CU CI CT
  unfold Res3 at CB CD
  dsimp only at CU CI CB CD
  obtain ⟨tt, htt⟩ : ∃ tt, textS T.data.toList = (tt, 0) := ⟨enc T.data.toList.length 2 ++ T.data.toList, by unfold textS; rw [if_neg (by rw [wlen]; omega)]⟩
  rw [htt] at CT
  dsimp only at CT
  obtain ⟨rtt, tl⟩ := rt_text F.data.toList B.data.toList T.data.toList tt (by rw [wlen]; omega) htt
  obtain ⟨xt, hxt, dxt, sxt⟩ := cat3 F B tt
  have st := str_size tt
  have TT := fun w => wire_TakeText xt F.size T.size (by rw [wlen] at tl; omega) w
  rw [← wlen F, ← wlen T, dxt, rtt, wlen, wlen] at TT
  unfold ResSI at TT
  dsimp only at TT
  rw [show (⟨T.data.toList.toArray⟩ : ByteArray) = T by simp] at TT
  rw [wlen] at tl
  rw [← st] at TT sxt tl
  obtain ⟨ut, hut⟩ : ∃ u : ByteArray, (⟨tt.toArray⟩ : ByteArray) = u := ⟨_, rfl⟩
  rw [hut] at CT TT hxt tl sxt
  obtain ⟨rr1, ll1, kk1, kk8⟩ := rt_uint F.data.toList B.data.toList l1 n k n1 ha
  obtain ⟨x1, hx1, dx1, sx1⟩ := cat3 F B l1
  have s1 := str_size l1
  have T1 := fun w => wire_TakeUint x1 F.size k (by omega) w
  rw [← wlen F, dx1, rr1, wlen] at T1
  unfold Res3 at T1
  dsimp only at T1
  rw [← s1] at T1 sx1 ll1
  obtain ⟨u1, hu1⟩ : ∃ u : ByteArray, (⟨l1.toArray⟩ : ByteArray) = u := ⟨_, rfl⟩
  rw [hu1] at CU T1 hx1 ll1 sx1
  have TH1 := Lib.hid T1
  have z1 : (u1.size : Int) ≤ 8 := by omega
  have zn1 : u1.size ≤ 8 := by omega
  have d2 := beq_f h2
  obtain ⟨q3, j3a, j3b, m3a, m3b⟩ := rv_uint B.data.toList k n3 j3 hc
  rw [wlen] at j3b
  have W3 := fun w => wire_Uint n3 k (by omega) (by omega) w
  rw [q3] at W3
  unfold ResS at W3
  dsimp only at W3
  rw [← extract_front] at W3
  have sr3 := fun W => slice_to W B j3 j3a j3b
  obtain ⟨p3, hp3⟩ : ∃ p : ByteArray, B.extract 0 j3.toNat = p := ⟨_, rfl⟩
  rw [hp3] at W3 sr3
  have WH3 := Lib.hid W3
  have jd3 : decide (j3 < 0) = false := dlt_f j3a
  have je3 : decide ((B.size : Int) < j3) = false := dlt_f j3b
  have d4 := beq_f h4
  have HU := Lib.hid CU; have HI := Lib.hid CI; have HT := Lib.hid CT; have HB := Lib.hid CB; have HD := Lib.hid CD; have HTT := Lib.hid TT
  have f4 : (F.size : Int) ≤ 300 := by omega
  have b4 : (B.size : Int) ≤ 300 := by omega
  have t4 : (T.size : Int) ≤ 300 := by omega
  have zt : (ut.size : Int) ≤ 302 := by omega
  have ztn : ut.size ≤ 302 := by omega
  have df : decide ((300 : Int) < F.size) = false := dlt_f f4
  have db : decide ((300 : Int) < B.size) = false := dlt_f b4
  have dt : decide ((300 : Int) < T.size) = false := dlt_f t4
  obtain ⟨W, hW, hx, K0⟩ := heldF_new w F B T n k 38
  have Y0 := Lib.hid hx
  clear CU CI CT CB CD TT ha hb hc hd htt rtt tl dxt sxt st hut hx n0 n1 rr1 ll1 kk1 kk8 dx1 sx1 s1 T1 hu1 h2 q3 W3 hp3 h4
  go_enter Try.func9, Try.ntmps9
  go_wp2_with fail
  clear hW
  refine (HU.out _).mono ?_; rintro e v1 ⟨rfl, g1⟩
  have K1 := heldF g1 K0
  have Y1 := Lib.hid (Y0.out.trans g1)
  clear g1 K0
  go_wp2_with fail
  all_goals (try (exfalso; omega))
  refine (TH1.out _).mono ?_; rintro e w' ⟨rfl, rfl⟩
  go_wp2_with fail
  refine (HI.out _).mono ?_; rintro e v2 ⟨rfl, g2⟩
  have K2 := heldF g2 K1
  have Y2 := Lib.hid (Y1.out.trans g2)
  clear g2 K1
  go_wp2_with fail
  refine (HT.out _).mono ?_; rintro e v3 ⟨rfl, g3⟩
  have K3 := heldF g3 K2
  have Y3 := Lib.hid (Y2.out.trans g3)
  clear g3 K2
  go_wp2_with fail
  all_goals (try (exfalso; omega))
  refine (HTT.out _).mono ?_; rintro e w' ⟨rfl, rfl⟩
  go_wp2_with fail
  refine (HB.out _).mono ?_; rintro e w' ⟨rfl, rfl⟩
  go_wp2_with fail
  refine (WH3.out _).mono ?_; rintro e v4 ⟨rfl, g4⟩
  have K4 := heldF g4 K3
  have Y4 := Lib.hid (Y3.out.trans g4)
  clear g4 K3
  go_wp2_with fail
  refine (HD.out _).mono ?_; rintro e w' ⟨rfl, rfl⟩
  go_wp2_with fail
  refine (law_awake _).mono ?_; rintro e w9 ⟨rfl, h9⟩
  go_wp2_with fail
  go_ret
  exact ⟨rfl, Y4.out.trans h9⟩
set_option maxRecDepth 100000 in
set_option maxHeartbeats 8000000 in
theorem law_rt_1011 (F B T : ByteArray) (n k : Int) (n0 : -9223372036854775808 ≤ n) (n1 : n ≤ 9223372036854775807) (f3 : F.size ≤ 300) (b3 : B.size ≤ 300) (t3 : T.size ≤ 300) (l1 : List UInt8) (ha : uintS n k = (l1, 0)) (e2 : Int) (h2 : e2 ≠ 0) (hb : intS n k = ([], e2)) (n3 j3 : Int) (hc : takeU B.data.toList 0 k = (n3, j3, 0)) (n4 j4 : Int) (hd : takeI B.data.toList 0 k = (n4, j4, 0)) (w : World) :
    Calls Try.prog 9 #[.agg #[.string F, .string B, .string T, .int .i64 n, .int .i64 k]] w fun e w' => e = .returned (.bool true) ∧ Ext w w' := by
  have CU := fun w => wire_Uint n k n0 n1 w
  have CI := fun w => wire_Int n k n0 n1 w
  have CT := fun w => wire_Text T (by omega) w
  have CB := fun w => wire_TakeUint B 0 k (by omega) w
  have CD := fun w => wire_TakeInt B 0 k (by omega) w
  rw [ha] at CU
  rw [hb] at CI
  rw [hc] at CB
  rw [hd] at CD
  unfold ResS at CU CI CT
  unfold Res3 at CB CD
  dsimp only at CU CI CB CD
  obtain ⟨tt, htt⟩ : ∃ tt, textS T.data.toList = (tt, 0) := ⟨enc T.data.toList.length 2 ++ T.data.toList, by unfold textS; rw [if_neg (by rw [wlen]; omega)]⟩
  rw [htt] at CT
  dsimp only at CT
  obtain ⟨rtt, tl⟩ := rt_text F.data.toList B.data.toList T.data.toList tt (by rw [wlen]; omega) htt
  obtain ⟨xt, hxt, dxt, sxt⟩ := cat3 F B tt
  have st := str_size tt
  have TT := fun w => wire_TakeText xt F.size T.size (by rw [wlen] at tl; omega) w
  rw [← wlen F, ← wlen T, dxt, rtt, wlen, wlen] at TT
  unfold ResSI at TT
  dsimp only at TT
  rw [show (⟨T.data.toList.toArray⟩ : ByteArray) = T by simp] at TT
  rw [wlen] at tl
  rw [← st] at TT sxt tl
  obtain ⟨ut, hut⟩ : ∃ u : ByteArray, (⟨tt.toArray⟩ : ByteArray) = u := ⟨_, rfl⟩
  rw [hut] at CT TT hxt tl sxt
  obtain ⟨rr1, ll1, kk1, kk8⟩ := rt_uint F.data.toList B.data.toList l1 n k n1 ha
  obtain ⟨x1, hx1, dx1, sx1⟩ := cat3 F B l1
  have s1 := str_size l1
  have T1 := fun w => wire_TakeUint x1 F.size k (by omega) w
  rw [← wlen F, dx1, rr1, wlen] at T1
  unfold Res3 at T1
  dsimp only at T1
  rw [← s1] at T1 sx1 ll1
  obtain ⟨u1, hu1⟩ : ∃ u : ByteArray, (⟨l1.toArray⟩ : ByteArray) = u := ⟨_, rfl⟩
  rw [hu1] at CU T1 hx1 ll1 sx1
  have TH1 := Lib.hid T1
  have z1 : (u1.size : Int) ≤ 8 := by omega
  have zn1 : u1.size ≤ 8 := by omega
  have d2 := beq_f h2
  obtain ⟨q3, j3a, j3b, m3a, m3b⟩ := rv_uint B.data.toList k n3 j3 hc
  rw [wlen] at j3b
  have W3 := fun w => wire_Uint n3 k (by omega) (by omega) w
  rw [q3] at W3
  unfold ResS at W3
  dsimp only at W3
  rw [← extract_front] at W3
  have sr3 := fun W => slice_to W B j3 j3a j3b
  obtain ⟨p3, hp3⟩ : ∃ p : ByteArray, B.extract 0 j3.toNat = p := ⟨_, rfl⟩
  rw [hp3] at W3 sr3
  have WH3 := Lib.hid W3
  have jd3 : decide (j3 < 0) = false := dlt_f j3a
  have je3 : decide ((B.size : Int) < j3) = false := dlt_f j3b
  obtain ⟨q4, j4a, j4b, m4a, m4b⟩ := rv_int B.data.toList k n4 j4 hd
  rw [wlen] at j4b
  have W4 := fun w => wire_Int n4 k (by omega) (by omega) w
  rw [q4] at W4
  unfold ResS at W4
  dsimp only at W4
  rw [← extract_front] at W4
  have sr4 := fun W => slice_to W B j4 j4a j4b
  obtain ⟨p4, hp4⟩ : ∃ p : ByteArray, B.extract 0 j4.toNat = p := ⟨_, rfl⟩
  rw [hp4] at W4 sr4
  have WH4 := Lib.hid W4
  have jd4 : decide (j4 < 0) = false := dlt_f j4a
  have je4 : decide ((B.size : Int) < j4) = false := dlt_f j4b
  have HU := Lib.hid CU; have HI := Lib.hid CI; have HT := Lib.hid CT; have HB := Lib.hid CB; have HD := Lib.hid CD; have HTT := Lib.hid TT
  have f4 : (F.size : Int) ≤ 300 := by omega
  have b4 : (B.size : Int) ≤ 300 := by omega
  have t4 : (T.size : Int) ≤ 300 := by omega
  have zt : (ut.size : Int) ≤ 302 := by omega
  have ztn : ut.size ≤ 302 := by omega
  have df : decide ((300 : Int) < F.size) = false := dlt_f f4
  have db : decide ((300 : Int) < B.size) = false := dlt_f b4
  have dt : decide ((300 : Int) < T.size) = false := dlt_f t4
  obtain ⟨W, hW, hx, K0⟩ := heldF_new w F B T n k 38
  have Y0 := Lib.hid hx
  clear CU CI CT CB CD TT ha hb hc hd htt rtt tl dxt sxt st hut hx n0 n1 rr1 ll1 kk1 kk8 dx1 sx1 s1 T1 hu1 h2 q3 W3 hp3 q4 W4 hp4
  go_enter Try.func9, Try.ntmps9
  go_wp2_with fail
  clear hW
  refine (HU.out _).mono ?_; rintro e v1 ⟨rfl, g1⟩
  have K1 := heldF g1 K0
  have Y1 := Lib.hid (Y0.out.trans g1)
  clear g1 K0
  go_wp2_with fail
  all_goals (try (exfalso; omega))
  refine (TH1.out _).mono ?_; rintro e w' ⟨rfl, rfl⟩
  go_wp2_with fail
  refine (HI.out _).mono ?_; rintro e v2 ⟨rfl, g2⟩
  have K2 := heldF g2 K1
  have Y2 := Lib.hid (Y1.out.trans g2)
  clear g2 K1
  go_wp2_with fail
  refine (HT.out _).mono ?_; rintro e v3 ⟨rfl, g3⟩
  have K3 := heldF g3 K2
  have Y3 := Lib.hid (Y2.out.trans g3)
  clear g3 K2
  go_wp2_with fail
  all_goals (try (exfalso; omega))
  refine (HTT.out _).mono ?_; rintro e w' ⟨rfl, rfl⟩
  go_wp2_with fail
  refine (HB.out _).mono ?_; rintro e w' ⟨rfl, rfl⟩
  go_wp2_with fail
  refine (WH3.out _).mono ?_; rintro e v4 ⟨rfl, g4⟩
  have K4 := heldF g4 K3
  have Y4 := Lib.hid (Y3.out.trans g4)
  clear g4 K3
  go_wp2_with fail
  refine (HD.out _).mono ?_; rintro e w' ⟨rfl, rfl⟩
  go_wp2_with fail
  refine (WH4.out _).mono ?_; rintro e v5 ⟨rfl, g5⟩
  have K5 := heldF g5 K4
  have Y5 := Lib.hid (Y4.out.trans g5)
  clear g5 K4
  go_wp2_with fail
  refine (law_awake _).mono ?_; rintro e w9 ⟨rfl, h9⟩
  go_wp2_with fail
  go_ret
  exact ⟨rfl, Y5.out.trans h9⟩
set_option maxRecDepth 100000 in
set_option maxHeartbeats 8000000 in
theorem law_rt_1100 (F B T : ByteArray) (n k : Int) (n0 : -9223372036854775808 ≤ n) (n1 : n ≤ 9223372036854775807) (f3 : F.size ≤ 300) (b3 : B.size ≤ 300) (t3 : T.size ≤ 300) (l1 : List UInt8) (ha : uintS n k = (l1, 0)) (l2 : List UInt8) (hb : intS n k = (l2, 0)) (x3 y3 e3 : Int) (h3 : e3 ≠ 0) (hc : takeU B.data.toList 0 k = (x3, y3, e3)) (x4 y4 e4 : Int) (h4 : e4 ≠ 0) (hd : takeI B.data.toList 0 k = (x4, y4, e4)) (w : World) :
    Calls Try.prog 9 #[.agg #[.string F, .string B, .string T, .int .i64 n, .int .i64 k]] w fun e w' => e = .returned (.bool true) ∧ Ext w w' := by
  have CU := fun w => wire_Uint n k n0 n1 w
  have CI := fun w => wire_Int n k n0 n1 w
  have CT := fun w => wire_Text T (by omega) w
  have CB := fun w => wire_TakeUint B 0 k (by omega) w
  have CD := fun w => wire_TakeInt B 0 k (by omega) w
  rw [ha] at CU
  rw [hb] at CI
  rw [hc] at CB
  rw [hd] at CD
  unfold ResS at CU CI CT
  unfold Res3 at CB CD
  dsimp only at CU CI CB CD
  obtain ⟨tt, htt⟩ : ∃ tt, textS T.data.toList = (tt, 0) := ⟨enc T.data.toList.length 2 ++ T.data.toList, by unfold textS; rw [if_neg (by rw [wlen]; omega)]⟩
  rw [htt] at CT
  dsimp only at CT
  obtain ⟨rtt, tl⟩ := rt_text F.data.toList B.data.toList T.data.toList tt (by rw [wlen]; omega) htt
  obtain ⟨xt, hxt, dxt, sxt⟩ := cat3 F B tt
  have st := str_size tt
  have TT := fun w => wire_TakeText xt F.size T.size (by rw [wlen] at tl; omega) w
  rw [← wlen F, ← wlen T, dxt, rtt, wlen, wlen] at TT
  unfold ResSI at TT
  dsimp only at TT
  rw [show (⟨T.data.toList.toArray⟩ : ByteArray) = T by simp] at TT
  rw [wlen] at tl
  rw [← st] at TT sxt tl
  obtain ⟨ut, hut⟩ : ∃ u : ByteArray, (⟨tt.toArray⟩ : ByteArray) = u := ⟨_, rfl⟩
  rw [hut] at CT TT hxt tl sxt
  obtain ⟨rr1, ll1, kk1, kk8⟩ := rt_uint F.data.toList B.data.toList l1 n k n1 ha
  obtain ⟨x1, hx1, dx1, sx1⟩ := cat3 F B l1
  have s1 := str_size l1
  have T1 := fun w => wire_TakeUint x1 F.size k (by omega) w
  rw [← wlen F, dx1, rr1, wlen] at T1
  unfold Res3 at T1
  dsimp only at T1
  rw [← s1] at T1 sx1 ll1
  obtain ⟨u1, hu1⟩ : ∃ u : ByteArray, (⟨l1.toArray⟩ : ByteArray) = u := ⟨_, rfl⟩
  rw [hu1] at CU T1 hx1 ll1 sx1
  have TH1 := Lib.hid T1
  have z1 : (u1.size : Int) ≤ 8 := by omega
  have zn1 : u1.size ≤ 8 := by omega
  obtain ⟨rr2, ll2, _, _⟩ := rt_int F.data.toList B.data.toList l2 n k n0 n1 hb
  obtain ⟨x2, hx2, dx2, sx2⟩ := cat3 F B l2
  have s2 := str_size l2
  have T2 := fun w => wire_TakeInt x2 F.size k (by omega) w
  rw [← wlen F, dx2, rr2, wlen] at T2
  unfold Res3 at T2
  dsimp only at T2
  rw [← s2] at T2 sx2 ll2
  obtain ⟨u2, hu2⟩ : ∃ u : ByteArray, (⟨l2.toArray⟩ : ByteArray) = u := ⟨_, rfl⟩
  rw [hu2] at CI T2 hx2 ll2 sx2
  have TH2 := Lib.hid T2
  have z2 : (u2.size : Int) ≤ 8 := by omega
  have zn2 : u2.size ≤ 8 := by omega
  have d3 := beq_f h3
  have d4 := beq_f h4
  have HU := Lib.hid CU; have HI := Lib.hid CI; have HT := Lib.hid CT; have HB := Lib.hid CB; have HD := Lib.hid CD; have HTT := Lib.hid TT
  have f4 : (F.size : Int) ≤ 300 := by omega
  have b4 : (B.size : Int) ≤ 300 := by omega
  have t4 : (T.size : Int) ≤ 300 := by omega
  have zt : (ut.size : Int) ≤ 302 := by omega
  have ztn : ut.size ≤ 302 := by omega
  have df : decide ((300 : Int) < F.size) = false := dlt_f f4
  have db : decide ((300 : Int) < B.size) = false := dlt_f b4
  have dt : decide ((300 : Int) < T.size) = false := dlt_f t4
  obtain ⟨W, hW, hx, K0⟩ := heldF_new w F B T n k 38
  have Y0 := Lib.hid hx
  clear CU CI CT CB CD TT ha hb hc hd htt rtt tl dxt sxt st hut hx n0 n1 rr1 ll1 kk1 kk8 dx1 sx1 s1 T1 hu1 rr2 ll2 dx2 sx2 s2 T2 hu2 h3 h4
  go_enter Try.func9, Try.ntmps9
  go_wp2_with fail
  clear hW
  refine (HU.out _).mono ?_; rintro e v1 ⟨rfl, g1⟩
  have K1 := heldF g1 K0
  have Y1 := Lib.hid (Y0.out.trans g1)
  clear g1 K0
  go_wp2_with fail
  all_goals (try (exfalso; omega))
  refine (TH1.out _).mono ?_; rintro e w' ⟨rfl, rfl⟩
  go_wp2_with fail
  refine (HI.out _).mono ?_; rintro e v2 ⟨rfl, g2⟩
  have K2 := heldF g2 K1
  have Y2 := Lib.hid (Y1.out.trans g2)
  clear g2 K1
  go_wp2_with fail
  all_goals (try (exfalso; omega))
  refine (TH2.out _).mono ?_; rintro e w' ⟨rfl, rfl⟩
  go_wp2_with fail
  refine (HT.out _).mono ?_; rintro e v3 ⟨rfl, g3⟩
  have K3 := heldF g3 K2
  have Y3 := Lib.hid (Y2.out.trans g3)
  clear g3 K2
  go_wp2_with fail
  all_goals (try (exfalso; omega))
  refine (HTT.out _).mono ?_; rintro e w' ⟨rfl, rfl⟩
  go_wp2_with fail
  refine (HB.out _).mono ?_; rintro e w' ⟨rfl, rfl⟩
  go_wp2_with fail
  refine (HD.out _).mono ?_; rintro e w' ⟨rfl, rfl⟩
  go_wp2_with fail
  refine (law_awake _).mono ?_; rintro e w9 ⟨rfl, h9⟩
  go_wp2_with fail
  go_ret
  exact ⟨rfl, Y3.out.trans h9⟩
set_option maxRecDepth 100000 in
set_option maxHeartbeats 8000000 in
theorem law_rt_1101 (F B T : ByteArray) (n k : Int) (n0 : -9223372036854775808 ≤ n) (n1 : n ≤ 9223372036854775807) (f3 : F.size ≤ 300) (b3 : B.size ≤ 300) (t3 : T.size ≤ 300) (l1 : List UInt8) (ha : uintS n k = (l1, 0)) (l2 : List UInt8) (hb : intS n k = (l2, 0)) (x3 y3 e3 : Int) (h3 : e3 ≠ 0) (hc : takeU B.data.toList 0 k = (x3, y3, e3)) (n4 j4 : Int) (hd : takeI B.data.toList 0 k = (n4, j4, 0)) (w : World) :
    Calls Try.prog 9 #[.agg #[.string F, .string B, .string T, .int .i64 n, .int .i64 k]] w fun e w' => e = .returned (.bool true) ∧ Ext w w' := by
  have CU := fun w => wire_Uint n k n0 n1 w
  have CI := fun w => wire_Int n k n0 n1 w
  have CT := fun w => wire_Text T (by omega) w
  have CB := fun w => wire_TakeUint B 0 k (by omega) w
  have CD := fun w => wire_TakeInt B 0 k (by omega) w
  rw [ha] at CU
  rw [hb] at CI
  rw [hc] at CB
  rw [hd] at CD
  unfold ResS at CU CI CT
  unfold Res3 at CB CD
  dsimp only at CU CI CB CD
  obtain ⟨tt, htt⟩ : ∃ tt, textS T.data.toList = (tt, 0) := ⟨enc T.data.toList.length 2 ++ T.data.toList, by unfold textS; rw [if_neg (by rw [wlen]; omega)]⟩
  rw [htt] at CT
  dsimp only at CT
  obtain ⟨rtt, tl⟩ := rt_text F.data.toList B.data.toList T.data.toList tt (by rw [wlen]; omega) htt
  obtain ⟨xt, hxt, dxt, sxt⟩ := cat3 F B tt
  have st := str_size tt
  have TT := fun w => wire_TakeText xt F.size T.size (by rw [wlen] at tl; omega) w
  rw [← wlen F, ← wlen T, dxt, rtt, wlen, wlen] at TT
  unfold ResSI at TT
  dsimp only at TT
  rw [show (⟨T.data.toList.toArray⟩ : ByteArray) = T by simp] at TT
  rw [wlen] at tl
  rw [← st] at TT sxt tl
  obtain ⟨ut, hut⟩ : ∃ u : ByteArray, (⟨tt.toArray⟩ : ByteArray) = u := ⟨_, rfl⟩
  rw [hut] at CT TT hxt tl sxt
  obtain ⟨rr1, ll1, kk1, kk8⟩ := rt_uint F.data.toList B.data.toList l1 n k n1 ha
  obtain ⟨x1, hx1, dx1, sx1⟩ := cat3 F B l1
  have s1 := str_size l1
  have T1 := fun w => wire_TakeUint x1 F.size k (by omega) w
  rw [← wlen F, dx1, rr1, wlen] at T1
  unfold Res3 at T1
  dsimp only at T1
  rw [← s1] at T1 sx1 ll1
  obtain ⟨u1, hu1⟩ : ∃ u : ByteArray, (⟨l1.toArray⟩ : ByteArray) = u := ⟨_, rfl⟩
  rw [hu1] at CU T1 hx1 ll1 sx1
  have TH1 := Lib.hid T1
  have z1 : (u1.size : Int) ≤ 8 := by omega
  have zn1 : u1.size ≤ 8 := by omega
  obtain ⟨rr2, ll2, _, _⟩ := rt_int F.data.toList B.data.toList l2 n k n0 n1 hb
  obtain ⟨x2, hx2, dx2, sx2⟩ := cat3 F B l2
  have s2 := str_size l2
  have T2 := fun w => wire_TakeInt x2 F.size k (by omega) w
  rw [← wlen F, dx2, rr2, wlen] at T2
  unfold Res3 at T2
  dsimp only at T2
  rw [← s2] at T2 sx2 ll2
  obtain ⟨u2, hu2⟩ : ∃ u : ByteArray, (⟨l2.toArray⟩ : ByteArray) = u := ⟨_, rfl⟩
  rw [hu2] at CI T2 hx2 ll2 sx2
  have TH2 := Lib.hid T2
  have z2 : (u2.size : Int) ≤ 8 := by omega
  have zn2 : u2.size ≤ 8 := by omega
  have d3 := beq_f h3
  obtain ⟨q4, j4a, j4b, m4a, m4b⟩ := rv_int B.data.toList k n4 j4 hd
  rw [wlen] at j4b
  have W4 := fun w => wire_Int n4 k (by omega) (by omega) w
  rw [q4] at W4
  unfold ResS at W4
  dsimp only at W4
  rw [← extract_front] at W4
  have sr4 := fun W => slice_to W B j4 j4a j4b
  obtain ⟨p4, hp4⟩ : ∃ p : ByteArray, B.extract 0 j4.toNat = p := ⟨_, rfl⟩
  rw [hp4] at W4 sr4
  have WH4 := Lib.hid W4
  have jd4 : decide (j4 < 0) = false := dlt_f j4a
  have je4 : decide ((B.size : Int) < j4) = false := dlt_f j4b
  have HU := Lib.hid CU; have HI := Lib.hid CI; have HT := Lib.hid CT; have HB := Lib.hid CB; have HD := Lib.hid CD; have HTT := Lib.hid TT
  have f4 : (F.size : Int) ≤ 300 := by omega
  have b4 : (B.size : Int) ≤ 300 := by omega
  have t4 : (T.size : Int) ≤ 300 := by omega
  have zt : (ut.size : Int) ≤ 302 := by omega
  have ztn : ut.size ≤ 302 := by omega
  have df : decide ((300 : Int) < F.size) = false := dlt_f f4
  have db : decide ((300 : Int) < B.size) = false := dlt_f b4
  have dt : decide ((300 : Int) < T.size) = false := dlt_f t4
  obtain ⟨W, hW, hx, K0⟩ := heldF_new w F B T n k 38
  have Y0 := Lib.hid hx
  clear CU CI CT CB CD TT ha hb hc hd htt rtt tl dxt sxt st hut hx n0 n1 rr1 ll1 kk1 kk8 dx1 sx1 s1 T1 hu1 rr2 ll2 dx2 sx2 s2 T2 hu2 h3 q4 W4 hp4
  go_enter Try.func9, Try.ntmps9
  go_wp2_with fail
  clear hW
  refine (HU.out _).mono ?_; rintro e v1 ⟨rfl, g1⟩
  have K1 := heldF g1 K0
  have Y1 := Lib.hid (Y0.out.trans g1)
  clear g1 K0
  go_wp2_with fail
  all_goals (try (exfalso; omega))
  refine (TH1.out _).mono ?_; rintro e w' ⟨rfl, rfl⟩
  go_wp2_with fail
  refine (HI.out _).mono ?_; rintro e v2 ⟨rfl, g2⟩
  have K2 := heldF g2 K1
  have Y2 := Lib.hid (Y1.out.trans g2)
  clear g2 K1
  go_wp2_with fail
  all_goals (try (exfalso; omega))
  refine (TH2.out _).mono ?_; rintro e w' ⟨rfl, rfl⟩
  go_wp2_with fail
  refine (HT.out _).mono ?_; rintro e v3 ⟨rfl, g3⟩
  have K3 := heldF g3 K2
  have Y3 := Lib.hid (Y2.out.trans g3)
  clear g3 K2
  go_wp2_with fail
  all_goals (try (exfalso; omega))
  refine (HTT.out _).mono ?_; rintro e w' ⟨rfl, rfl⟩
  go_wp2_with fail
  refine (HB.out _).mono ?_; rintro e w' ⟨rfl, rfl⟩
  go_wp2_with fail
  refine (HD.out _).mono ?_; rintro e w' ⟨rfl, rfl⟩
  go_wp2_with fail
  refine (WH4.out _).mono ?_; rintro e v5 ⟨rfl, g5⟩
  have K5 := heldF g5 K3
  have Y5 := Lib.hid (Y3.out.trans g5)
  clear g5 K3
  go_wp2_with fail
  refine (law_awake _).mono ?_; rintro e w9 ⟨rfl, h9⟩
  go_wp2_with fail
  go_ret
  exact ⟨rfl, Y5.out.trans h9⟩
set_option maxRecDepth 100000 in
set_option maxHeartbeats 8000000 in
theorem law_rt_1110 (F B T : ByteArray) (n k : Int) (n0 : -9223372036854775808 ≤ n) (n1 : n ≤ 9223372036854775807) (f3 : F.size ≤ 300) (b3 : B.size ≤ 300) (t3 : T.size ≤ 300) (l1 : List UInt8) (ha : uintS n k = (l1, 0)) (l2 : List UInt8) (hb : intS n k = (l2, 0)) (n3 j3 : Int) (hc : takeU B.data.toList 0 k = (n3, j3, 0)) (x4 y4 e4 : Int) (h4 : e4 ≠ 0) (hd : takeI B.data.toList 0 k = (x4, y4, e4)) (w : World) :
    Calls Try.prog 9 #[.agg #[.string F, .string B, .string T, .int .i64 n, .int .i64 k]] w fun e w' => e = .returned (.bool true) ∧ Ext w w' := by
  have CU := fun w => wire_Uint n k n0 n1 w
  have CI := fun w => wire_Int n k n0 n1 w
  have CT := fun w => wire_Text T (by omega) w
  have CB := fun w => wire_TakeUint B 0 k (by omega) w
  have CD := fun w => wire_TakeInt B 0 k (by omega) w
  rw [ha] at CU
  rw [hb] at CI
  rw [hc] at CB
  rw [hd] at CD
  unfold ResS at CU CI CT
  unfold Res3 at CB CD
  dsimp only at CU CI CB CD
  obtain ⟨tt, htt⟩ : ∃ tt, textS T.data.toList = (tt, 0) := ⟨enc T.data.toList.length 2 ++ T.data.toList, by unfold textS; rw [if_neg (by rw [wlen]; omega)]⟩
  rw [htt] at CT
  dsimp only at CT
  obtain ⟨rtt, tl⟩ := rt_text F.data.toList B.data.toList T.data.toList tt (by rw [wlen]; omega) htt
  obtain ⟨xt, hxt, dxt, sxt⟩ := cat3 F B tt
  have st := str_size tt
  have TT := fun w => wire_TakeText xt F.size T.size (by rw [wlen] at tl; omega) w
  rw [← wlen F, ← wlen T, dxt, rtt, wlen, wlen] at TT
  unfold ResSI at TT
  dsimp only at TT
  rw [show (⟨T.data.toList.toArray⟩ : ByteArray) = T by simp] at TT
  rw [wlen] at tl
  rw [← st] at TT sxt tl
  obtain ⟨ut, hut⟩ : ∃ u : ByteArray, (⟨tt.toArray⟩ : ByteArray) = u := ⟨_, rfl⟩
  rw [hut] at CT TT hxt tl sxt
  obtain ⟨rr1, ll1, kk1, kk8⟩ := rt_uint F.data.toList B.data.toList l1 n k n1 ha
  obtain ⟨x1, hx1, dx1, sx1⟩ := cat3 F B l1
  have s1 := str_size l1
  have T1 := fun w => wire_TakeUint x1 F.size k (by omega) w
  rw [← wlen F, dx1, rr1, wlen] at T1
  unfold Res3 at T1
  dsimp only at T1
  rw [← s1] at T1 sx1 ll1
  obtain ⟨u1, hu1⟩ : ∃ u : ByteArray, (⟨l1.toArray⟩ : ByteArray) = u := ⟨_, rfl⟩
  rw [hu1] at CU T1 hx1 ll1 sx1
  have TH1 := Lib.hid T1
  have z1 : (u1.size : Int) ≤ 8 := by omega
  have zn1 : u1.size ≤ 8 := by omega
  obtain ⟨rr2, ll2, _, _⟩ := rt_int F.data.toList B.data.toList l2 n k n0 n1 hb
  obtain ⟨x2, hx2, dx2, sx2⟩ := cat3 F B l2
  have s2 := str_size l2
  have T2 := fun w => wire_TakeInt x2 F.size k (by omega) w
  rw [← wlen F, dx2, rr2, wlen] at T2
  unfold Res3 at T2
  dsimp only at T2
  rw [← s2] at T2 sx2 ll2
  obtain ⟨u2, hu2⟩ : ∃ u : ByteArray, (⟨l2.toArray⟩ : ByteArray) = u := ⟨_, rfl⟩
  rw [hu2] at CI T2 hx2 ll2 sx2
  have TH2 := Lib.hid T2
  have z2 : (u2.size : Int) ≤ 8 := by omega
  have zn2 : u2.size ≤ 8 := by omega
  obtain ⟨q3, j3a, j3b, m3a, m3b⟩ := rv_uint B.data.toList k n3 j3 hc
  rw [wlen] at j3b
  have W3 := fun w => wire_Uint n3 k (by omega) (by omega) w
  rw [q3] at W3
  unfold ResS at W3
  dsimp only at W3
  rw [← extract_front] at W3
  have sr3 := fun W => slice_to W B j3 j3a j3b
  obtain ⟨p3, hp3⟩ : ∃ p : ByteArray, B.extract 0 j3.toNat = p := ⟨_, rfl⟩
  rw [hp3] at W3 sr3
  have WH3 := Lib.hid W3
  have jd3 : decide (j3 < 0) = false := dlt_f j3a
  have je3 : decide ((B.size : Int) < j3) = false := dlt_f j3b
  have d4 := beq_f h4
  have HU := Lib.hid CU; have HI := Lib.hid CI; have HT := Lib.hid CT; have HB := Lib.hid CB; have HD := Lib.hid CD; have HTT := Lib.hid TT
  have f4 : (F.size : Int) ≤ 300 := by omega
  have b4 : (B.size : Int) ≤ 300 := by omega
  have t4 : (T.size : Int) ≤ 300 := by omega
  have zt : (ut.size : Int) ≤ 302 := by omega
  have ztn : ut.size ≤ 302 := by omega
  have df : decide ((300 : Int) < F.size) = false := dlt_f f4
  have db : decide ((300 : Int) < B.size) = false := dlt_f b4
  have dt : decide ((300 : Int) < T.size) = false := dlt_f t4
  obtain ⟨W, hW, hx, K0⟩ := heldF_new w F B T n k 38
  have Y0 := Lib.hid hx
  clear CU CI CT CB CD TT ha hb hc hd htt rtt tl dxt sxt st hut hx n0 n1 rr1 ll1 kk1 kk8 dx1 sx1 s1 T1 hu1 rr2 ll2 dx2 sx2 s2 T2 hu2 q3 W3 hp3 h4
  go_enter Try.func9, Try.ntmps9
  go_wp2_with fail
  clear hW
  refine (HU.out _).mono ?_; rintro e v1 ⟨rfl, g1⟩
  have K1 := heldF g1 K0
  have Y1 := Lib.hid (Y0.out.trans g1)
  clear g1 K0
  go_wp2_with fail
  all_goals (try (exfalso; omega))
  refine (TH1.out _).mono ?_; rintro e w' ⟨rfl, rfl⟩
  go_wp2_with fail
  refine (HI.out _).mono ?_; rintro e v2 ⟨rfl, g2⟩
  have K2 := heldF g2 K1
  have Y2 := Lib.hid (Y1.out.trans g2)
  clear g2 K1
  go_wp2_with fail
  all_goals (try (exfalso; omega))
  refine (TH2.out _).mono ?_; rintro e w' ⟨rfl, rfl⟩
  go_wp2_with fail
  refine (HT.out _).mono ?_; rintro e v3 ⟨rfl, g3⟩
  have K3 := heldF g3 K2
  have Y3 := Lib.hid (Y2.out.trans g3)
  clear g3 K2
  go_wp2_with fail
  all_goals (try (exfalso; omega))
  refine (HTT.out _).mono ?_; rintro e w' ⟨rfl, rfl⟩
  go_wp2_with fail
  refine (HB.out _).mono ?_; rintro e w' ⟨rfl, rfl⟩
  go_wp2_with fail
  refine (WH3.out _).mono ?_; rintro e v4 ⟨rfl, g4⟩
  have K4 := heldF g4 K3
  have Y4 := Lib.hid (Y3.out.trans g4)
  clear g4 K3
  go_wp2_with fail
  refine (HD.out _).mono ?_; rintro e w' ⟨rfl, rfl⟩
  go_wp2_with fail
  refine (law_awake _).mono ?_; rintro e w9 ⟨rfl, h9⟩
  go_wp2_with fail
  go_ret
  exact ⟨rfl, Y4.out.trans h9⟩
set_option maxRecDepth 100000 in
set_option maxHeartbeats 8000000 in
theorem law_rt_1111 (F B T : ByteArray) (n k : Int) (n0 : -9223372036854775808 ≤ n) (n1 : n ≤ 9223372036854775807) (f3 : F.size ≤ 300) (b3 : B.size ≤ 300) (t3 : T.size ≤ 300) (l1 : List UInt8) (ha : uintS n k = (l1, 0)) (l2 : List UInt8) (hb : intS n k = (l2, 0)) (n3 j3 : Int) (hc : takeU B.data.toList 0 k = (n3, j3, 0)) (n4 j4 : Int) (hd : takeI B.data.toList 0 k = (n4, j4, 0)) (w : World) :
    Calls Try.prog 9 #[.agg #[.string F, .string B, .string T, .int .i64 n, .int .i64 k]] w fun e w' => e = .returned (.bool true) ∧ Ext w w' := by
  have CU := fun w => wire_Uint n k n0 n1 w
  have CI := fun w => wire_Int n k n0 n1 w
  have CT := fun w => wire_Text T (by omega) w
  have CB := fun w => wire_TakeUint B 0 k (by omega) w
  have CD := fun w => wire_TakeInt B 0 k (by omega) w
  rw [ha] at CU
  rw [hb] at CI
  rw [hc] at CB
  rw [hd] at CD
  unfold ResS at CU CI CT
  unfold Res3 at CB CD
  dsimp only at CU CI CB CD
  obtain ⟨tt, htt⟩ : ∃ tt, textS T.data.toList = (tt, 0) := ⟨enc T.data.toList.length 2 ++ T.data.toList, by unfold textS; rw [if_neg (by rw [wlen]; omega)]⟩
  rw [htt] at CT
  dsimp only at CT
  obtain ⟨rtt, tl⟩ := rt_text F.data.toList B.data.toList T.data.toList tt (by rw [wlen]; omega) htt
  obtain ⟨xt, hxt, dxt, sxt⟩ := cat3 F B tt
  have st := str_size tt
  have TT := fun w => wire_TakeText xt F.size T.size (by rw [wlen] at tl; omega) w
  rw [← wlen F, ← wlen T, dxt, rtt, wlen, wlen] at TT
  unfold ResSI at TT
  dsimp only at TT
  rw [show (⟨T.data.toList.toArray⟩ : ByteArray) = T by simp] at TT
  rw [wlen] at tl
  rw [← st] at TT sxt tl
  obtain ⟨ut, hut⟩ : ∃ u : ByteArray, (⟨tt.toArray⟩ : ByteArray) = u := ⟨_, rfl⟩
  rw [hut] at CT TT hxt tl sxt
  obtain ⟨rr1, ll1, kk1, kk8⟩ := rt_uint F.data.toList B.data.toList l1 n k n1 ha
  obtain ⟨x1, hx1, dx1, sx1⟩ := cat3 F B l1
  have s1 := str_size l1
  have T1 := fun w => wire_TakeUint x1 F.size k (by omega) w
  rw [← wlen F, dx1, rr1, wlen] at T1
  unfold Res3 at T1
  dsimp only at T1
  rw [← s1] at T1 sx1 ll1
  obtain ⟨u1, hu1⟩ : ∃ u : ByteArray, (⟨l1.toArray⟩ : ByteArray) = u := ⟨_, rfl⟩
  rw [hu1] at CU T1 hx1 ll1 sx1
  have TH1 := Lib.hid T1
  have z1 : (u1.size : Int) ≤ 8 := by omega
  have zn1 : u1.size ≤ 8 := by omega
  obtain ⟨rr2, ll2, _, _⟩ := rt_int F.data.toList B.data.toList l2 n k n0 n1 hb
  obtain ⟨x2, hx2, dx2, sx2⟩ := cat3 F B l2
  have s2 := str_size l2
  have T2 := fun w => wire_TakeInt x2 F.size k (by omega) w
  rw [← wlen F, dx2, rr2, wlen] at T2
  unfold Res3 at T2
  dsimp only at T2
  rw [← s2] at T2 sx2 ll2
  obtain ⟨u2, hu2⟩ : ∃ u : ByteArray, (⟨l2.toArray⟩ : ByteArray) = u := ⟨_, rfl⟩
  rw [hu2] at CI T2 hx2 ll2 sx2
  have TH2 := Lib.hid T2
  have z2 : (u2.size : Int) ≤ 8 := by omega
  have zn2 : u2.size ≤ 8 := by omega
  obtain ⟨q3, j3a, j3b, m3a, m3b⟩ := rv_uint B.data.toList k n3 j3 hc
  rw [wlen] at j3b
  have W3 := fun w => wire_Uint n3 k (by omega) (by omega) w
  rw [q3] at W3
  unfold ResS at W3
  dsimp only at W3
  rw [← extract_front] at W3
  have sr3 := fun W => slice_to W B j3 j3a j3b
  obtain ⟨p3, hp3⟩ : ∃ p : ByteArray, B.extract 0 j3.toNat = p := ⟨_, rfl⟩
  rw [hp3] at W3 sr3
  have WH3 := Lib.hid W3
  have jd3 : decide (j3 < 0) = false := dlt_f j3a
  have je3 : decide ((B.size : Int) < j3) = false := dlt_f j3b
  obtain ⟨q4, j4a, j4b, m4a, m4b⟩ := rv_int B.data.toList k n4 j4 hd
  rw [wlen] at j4b
  have W4 := fun w => wire_Int n4 k (by omega) (by omega) w
  rw [q4] at W4
  unfold ResS at W4
  dsimp only at W4
  rw [← extract_front] at W4
  have sr4 := fun W => slice_to W B j4 j4a j4b
  obtain ⟨p4, hp4⟩ : ∃ p : ByteArray, B.extract 0 j4.toNat = p := ⟨_, rfl⟩
  rw [hp4] at W4 sr4
  have WH4 := Lib.hid W4
  have jd4 : decide (j4 < 0) = false := dlt_f j4a
  have je4 : decide ((B.size : Int) < j4) = false := dlt_f j4b
  have HU := Lib.hid CU; have HI := Lib.hid CI; have HT := Lib.hid CT; have HB := Lib.hid CB; have HD := Lib.hid CD; have HTT := Lib.hid TT
  have f4 : (F.size : Int) ≤ 300 := by omega
  have b4 : (B.size : Int) ≤ 300 := by omega
  have t4 : (T.size : Int) ≤ 300 := by omega
  have zt : (ut.size : Int) ≤ 302 := by omega
  have ztn : ut.size ≤ 302 := by omega
  have df : decide ((300 : Int) < F.size) = false := dlt_f f4
  have db : decide ((300 : Int) < B.size) = false := dlt_f b4
  have dt : decide ((300 : Int) < T.size) = false := dlt_f t4
  obtain ⟨W, hW, hx, K0⟩ := heldF_new w F B T n k 38
  have Y0 := Lib.hid hx
  clear CU CI CT CB CD TT ha hb hc hd htt rtt tl dxt sxt st hut hx n0 n1 rr1 ll1 kk1 kk8 dx1 sx1 s1 T1 hu1 rr2 ll2 dx2 sx2 s2 T2 hu2 q3 W3 hp3 q4 W4 hp4
  go_enter Try.func9, Try.ntmps9
  go_wp2_with fail
  clear hW
  refine (HU.out _).mono ?_; rintro e v1 ⟨rfl, g1⟩
  have K1 := heldF g1 K0
  have Y1 := Lib.hid (Y0.out.trans g1)
  clear g1 K0
  go_wp2_with fail
  all_goals (try (exfalso; omega))
  refine (TH1.out _).mono ?_; rintro e w' ⟨rfl, rfl⟩
  go_wp2_with fail
  refine (HI.out _).mono ?_; rintro e v2 ⟨rfl, g2⟩
  have K2 := heldF g2 K1
  have Y2 := Lib.hid (Y1.out.trans g2)
  clear g2 K1
  go_wp2_with fail
  all_goals (try (exfalso; omega))
  refine (TH2.out _).mono ?_; rintro e w' ⟨rfl, rfl⟩
  go_wp2_with fail
  refine (HT.out _).mono ?_; rintro e v3 ⟨rfl, g3⟩
  have K3 := heldF g3 K2
  have Y3 := Lib.hid (Y2.out.trans g3)
  clear g3 K2
  go_wp2_with fail
  all_goals (try (exfalso; omega))
  refine (HTT.out _).mono ?_; rintro e w' ⟨rfl, rfl⟩
  go_wp2_with fail
  refine (HB.out _).mono ?_; rintro e w' ⟨rfl, rfl⟩
  go_wp2_with fail
  refine (WH3.out _).mono ?_; rintro e v4 ⟨rfl, g4⟩
  have K4 := heldF g4 K3
  have Y4 := Lib.hid (Y3.out.trans g4)
  clear g4 K3
  go_wp2_with fail
  refine (HD.out _).mono ?_; rintro e w' ⟨rfl, rfl⟩
  go_wp2_with fail
  refine (WH4.out _).mono ?_; rintro e v5 ⟨rfl, g5⟩
  have K5 := heldF g5 K4
  have Y5 := Lib.hid (Y4.out.trans g5)
  clear g5 K4
  go_wp2_with fail
  refine (law_awake _).mono ?_; rintro e w9 ⟨rfl, h9⟩
  go_wp2_with fail
  go_ret
  exact ⟨rfl, Y5.out.trans h9⟩
end Go.Proofs.Ytpckhcnlffddcaa

