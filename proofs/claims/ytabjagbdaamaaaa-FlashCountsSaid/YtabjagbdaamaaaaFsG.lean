/-
  Layer 51: FlashCounts.
-/
import Derived.Test.YtabjagbdaamaaaaProg
import Derived.Test.YtabjagbdaamaaaaFvX
import Derived.Test.YtabjagbdaamaaaaFvZ
import Derived.Test.YtabjagbdaamaaaaAut
import Derived.Test.YtabjagbdaamaaaaRd
import Derived.Test.YtabjagbdaamaaaaPl
import Derived.Test.YtabjagbdaamaaaaScn
import Derived.Test.YtabjagbdaamaaaaFsA
import Derived.Test.YtabjagbdaamaaaaFld
import Derived.Test.YtabjagbdaamaaaaRpl
import Derived.Test.YtabjagbdaamaaaaFsB
import Derived.Test.YtabjagbdaamaaaaFsC
import Derived.Test.YtabjagbdaamaaaaFsD
import Derived.Test.YtabjagbdaamaaaaFsE
import Derived.Test.YtabjagbdaamaaaaFsF
namespace Go.Proofs.Ytabjagbdaamaaaa
open Go
abbrev cou_U : Type := (Ty.list .str).den × Int × Bool × Int × Int × ByteArray × Int × Int
abbrev cou_V : Type := Bool × Int × (Ty.list .str).den × Int × Bool × Int
noncomputable def cou_St (u : cou_U) (v : cou_V) : Stt := ⟨[.one .junk, .one (.p 0 0), .one (.v false (.bool v.1)), .one (.p 32 0), .one (.v false (.int .i64 v.2.1)), .one .junk, .one .junk, .one .junk, .one .junk, .one .junk, .one .junk, .one .junk, .one .junk, .one .junk, .one .junk, .one .junk, .one .junk, .one .junk, .one .junk, .one .junk, .one .junk, .one .junk, .one .junk, .one .junk, .one .junk, .one .junk, .one .junk, .one .junk, .one .junk, .one .junk, .one .junk, .one .junk, .one .junk, .one .junk, .one .junk, .one .junk, .one .junk, .one .junk, .one .junk, .one .junk, .one .junk, .one .junk, .one .junk, .one .junk, .one .junk, .one .junk, .one .junk, .one .junk, .one .junk, .one .junk, .one .junk, .one .junk, .one .junk, .one .junk, .one .junk, .one .junk, .one .junk, .one .junk, .one .junk, .one .junk, .one .junk, .one .junk, .one .junk, .one .junk, .one .junk, .one .junk, .one .junk, .one .junk, .one .junk, .one .junk, .one .junk, .one .junk, .one .junk, .one .junk, .one .junk], [(32, .cells [.d false false .str v.2.2.1, .v false (.int .i64 v.2.2.2.1), .v false (.bool v.2.2.2.2.1), .v false (.int .i64 v.2.2.2.2.2)]), (0, .cells [.d false false .str u.1, .v false (.int .i64 u.2.1), .v false (.bool u.2.2.1), .v false (.int .i64 u.2.2.2.1), .v false (.int .i64 u.2.2.2.2.1), .v false (.string u.2.2.2.2.2.1), .v false (.int .i64 u.2.2.2.2.2.2.1), .v false (.int .i64 u.2.2.2.2.2.2.2)])], 1035⟩
noncomputable def cou_step (u : cou_U) (v : cou_V) : Tr (cou_V ⊕ (Nat × cou_V)) :=
  match u, v with
  | (_, _, _, _, _, _, q12, _), (q0, q1, q2, q3, q4, q5) => .br (decide (q1 ≤ IntKind.wrap IntKind.i64 (q12 + (2 : Int)))) (.br (decide (List.length q2 ≤ (4096 : Nat))) (.br (bif bif decide (q1 < q12) then wrE q2 q3 q4 q5 (Int.tmod q1 (2 : Int)) (fld (IntKind.wrap IntKind.u8 q1)) != (0 : Int) else false then true else bif decide (q1 ≥ q12) then wrE q2 q3 q4 q5 (Int.tmod q1 (2 : Int)) (fld (IntKind.wrap IntKind.u8 q1)) != (17 : Int) else false) (.ret (.inr (0, (false, q1, q2, q3, q4, q5)))) (.ret (.inl (q0, IntKind.wrap IntKind.i64 (q1 + (1 : Int)), wrP q2 q3 q4 q5 (Int.tmod q1 (2 : Int)) (fld (IntKind.wrap IntKind.u8 q1)), wrF q2 q3 q4 q5 (Int.tmod q1 (2 : Int)) (fld (IntKind.wrap IntKind.u8 q1)), wrD q2 q3 q4 q5 (Int.tmod q1 (2 : Int)) (fld (IntKind.wrap IntKind.u8 q1)), wrK q2 q3 q4 q5 (Int.tmod q1 (2 : Int)) (fld (IntKind.wrap IntKind.u8 q1)))))) (.bad 900)) (.ret (.inr (1, (q0, q1, q2, q3, q4, q5))))
set_option maxRecDepth 100000 in
set_option maxHeartbeats 4000000 in
theorem cou_step_eq : ∀ (u : cou_U) (v : cou_V), (evalC Try.prog (evalB Try.prog fsD_S52 (opens []) fsB_L54 7).1 (evalB Try.prog fsD_S52 (opens []) fsB_L54 7).2 (opens []) (fsB_L54 8) 100000 (0 :: [0, 1, 0, 1, 1, 1]) (loopOf (bodyOf Try.prog 8) [1, 1, 1, 0, 1, 0]) (cou_St u v) []).bind (finF [0, 5, 6, 7, 8, 9, 10, 11, 12, 13, 14, 15, 16, 17, 18, 19, 20, 21, 22, 23, 24, 25, 26, 27, 28, 29, 30, 31, 32, 33, 34, 35, 36, 37, 38, 39, 40, 41, 42, 43, 44, 45, 46, 47, 48, 49, 50, 51, 52, 53, 54, 55, 56, 57, 58, 59, 60, 61, 62, 63, 64, 65, 66, 67, 68, 69, 70, 71, 72, 73, 74] [] [32, 0] [] 1035) = (cou_step u v).bind (outA (cou_St u) [.ret, .exit 0]) := by
  rintro ⟨q6, q7, q8, q9, q10, q11, q12, q13⟩ ⟨q0, q1, q2, q3, q4, q5⟩
  kernel_rfl
noncomputable def cou_rd (b : Bool) (o1 : Option AV) (o2 : Option AV) (o3 : Option AV) (o4 : Option AV) (own : Own) : Option (cou_U × cou_V) := zrT b <| zrO o1 fun za1 => zrA1 za1 fun zc2 => zrP 0 0 zc2 <| zrO o2 fun za3 => zrA1 za3 fun zc4 => zrB zc4 fun q0 => zrO o3 fun za5 => zrA1 za5 fun zc6 => zrP 32 0 zc6 <| zrO o4 fun za7 => zrA1 za7 fun zc8 => zrI .i64 zc8 fun q1 => zrL own fun zq9 zw10 => zrKey 32 zq9 fun zk11 => zrC zk11 fun zl12 => zrL zl12 fun zc13 zr14 => zrD .str zc13 fun q2 => zrL zr14 fun zc15 zr16 => zrI .i64 zc15 fun q3 => zrL zr16 fun zc17 zr18 => zrB zc17 fun q4 => zrL zr18 fun zc19 zr20 => zrI .i64 zc19 fun q5 => zrN zr20 <| zrL zw10 fun zq21 zw22 => zrKey 0 zq21 fun zk23 => zrC zk23 fun zl24 => zrL zl24 fun zc25 zr26 => zrD .str zc25 fun q6 => zrL zr26 fun zc27 zr28 => zrI .i64 zc27 fun q7 => zrL zr28 fun zc29 zr30 => zrB zc29 fun q8 => zrL zr30 fun zc31 zr32 => zrI .i64 zc31 fun q9 => zrL zr32 fun zc33 zr34 => zrI .i64 zc33 fun q10 => zrL zr34 fun zc35 zr36 => zrS zc35 fun q11 => zrL zr36 fun zc37 zr38 => zrI .i64 zc37 fun q12 => zrL zr38 fun zc39 zr40 => zrI .i64 zc39 fun q13 => zrN zr40 <| zrN zw22 <| some ((q6, q7, q8, q9, q10, q11, q12, q13), (q0, q1, q2, q3, q4, q5))
noncomputable def cou_can (st : Stt) : Stt := canA [0, 5, 6, 7, 8, 9, 10, 11, 12, 13, 14, 15, 16, 17, 18, 19, 20, 21, 22, 23, 24, 25, 26, 27, 28, 29, 30, 31, 32, 33, 34, 35, 36, 37, 38, 39, 40, 41, 42, 43, 44, 45, 46, 47, 48, 49, 50, 51, 52, 53, 54, 55, 56, 57, 58, 59, 60, 61, 62, 63, 64, 65, 66, 67, 68, 69, 70, 71, 72, 73, 74] [] [32, 0] [] 1035 st
noncomputable def cou_cok (st : Stt) : Bool := canAok [0, 5, 6, 7, 8, 9, 10, 11, 12, 13, 14, 15, 16, 17, 18, 19, 20, 21, 22, 23, 24, 25, 26, 27, 28, 29, 30, 31, 32, 33, 34, 35, 36, 37, 38, 39, 40, 41, 42, 43, 44, 45, 46, 47, 48, 49, 50, 51, 52, 53, 54, 55, 56, 57, 58, 59, 60, 61, 62, 63, 64, 65, 66, 67, 68, 69, 70, 71, 72, 73, 74] [] [32, 0] [] 1035 st
noncomputable def cou_read (st : Stt) : Option (cou_U × cou_V) := cou_rd (cou_cok st && (staysA [] [32, 0] st.own && juAll [0, 5, 6, 7, 8, 9, 10, 11, 12, 13, 14, 15, 16, 17, 18, 19, 20, 21, 22, 23, 24, 25, 26, 27, 28, 29, 30, 31, 32, 33, 34, 35, 36, 37, 38, 39, 40, 41, 42, 43, 44, 45, 46, 47, 48, 49, 50, 51, 52, 53, 54, 55, 56, 57, 58, 59, 60, 61, 62, 63, 64, 65, 66, 67, 68, 69, 70, 71, 72, 73, 74] (cou_can st).tm 75)) (cou_can st).tm[1]? (cou_can st).tm[2]? (cou_can st).tm[3]? (cou_can st).tm[4]? (cou_can st).own
set_option maxRecDepth 100000 in
set_option maxHeartbeats 4000000 in
theorem cou_rd_ok {b : Bool} {tm : List AV} {own : Own} {u : cou_U} {v : cou_V} (hj : b = true → juAll [0, 5, 6, 7, 8, 9, 10, 11, 12, 13, 14, 15, 16, 17, 18, 19, 20, 21, 22, 23, 24, 25, 26, 27, 28, 29, 30, 31, 32, 33, 34, 35, 36, 37, 38, 39, 40, 41, 42, 43, 44, 45, 46, 47, 48, 49, 50, 51, 52, 53, 54, 55, 56, 57, 58, 59, 60, 61, 62, 63, 64, 65, 66, 67, 68, 69, 70, 71, 72, 73, 74] tm 75 = true) (h : cou_rd b tm[1]? tm[2]? tm[3]? tm[4]? own = some (u, v)) : b = true ∧ tm = (cou_St u v).tm ∧ own = (cou_St u v).own := by
  unfold cou_rd at h
  obtain ⟨rfl, h0⟩ := zrT_some h
  obtain ⟨za1, e1, h1⟩ := zrO_some h0
  obtain ⟨zc2, rfl, h2⟩ := zrA1_some h1
  obtain ⟨rfl, h3⟩ := zrP_some h2
  obtain ⟨za3, e2, h4⟩ := zrO_some h3
  obtain ⟨zc4, rfl, h5⟩ := zrA1_some h4
  obtain ⟨q0, rfl, h6⟩ := zrB_some h5
  obtain ⟨za5, e3, h7⟩ := zrO_some h6
  obtain ⟨zc6, rfl, h8⟩ := zrA1_some h7
  obtain ⟨rfl, h9⟩ := zrP_some h8
  obtain ⟨za7, e4, h10⟩ := zrO_some h9
  obtain ⟨zc8, rfl, h11⟩ := zrA1_some h10
  obtain ⟨q1, rfl, h12⟩ := zrI_some h11
  obtain ⟨zq9, zw10, rfl, h13⟩ := zrL_some h12
  obtain ⟨zk11, rfl, h14⟩ := zrKey_some h13
  obtain ⟨zl12, rfl, h15⟩ := zrC_some h14
  obtain ⟨zc13, zr14, rfl, h16⟩ := zrL_some h15
  obtain ⟨q2, rfl, h17⟩ := zrD_some h16
  obtain ⟨zc15, zr16, rfl, h18⟩ := zrL_some h17
  obtain ⟨q3, rfl, h19⟩ := zrI_some h18
  obtain ⟨zc17, zr18, rfl, h20⟩ := zrL_some h19
  obtain ⟨q4, rfl, h21⟩ := zrB_some h20
  obtain ⟨zc19, zr20, rfl, h22⟩ := zrL_some h21
  obtain ⟨q5, rfl, h23⟩ := zrI_some h22
  obtain ⟨rfl, h24⟩ := zrN_some h23
  obtain ⟨zq21, zw22, rfl, h25⟩ := zrL_some h24
  obtain ⟨zk23, rfl, h26⟩ := zrKey_some h25
  obtain ⟨zl24, rfl, h27⟩ := zrC_some h26
  obtain ⟨zc25, zr26, rfl, h28⟩ := zrL_some h27
  obtain ⟨q6, rfl, h29⟩ := zrD_some h28
  obtain ⟨zc27, zr28, rfl, h30⟩ := zrL_some h29
  obtain ⟨q7, rfl, h31⟩ := zrI_some h30
  obtain ⟨zc29, zr30, rfl, h32⟩ := zrL_some h31
  obtain ⟨q8, rfl, h33⟩ := zrB_some h32
  obtain ⟨zc31, zr32, rfl, h34⟩ := zrL_some h33
  obtain ⟨q9, rfl, h35⟩ := zrI_some h34
  obtain ⟨zc33, zr34, rfl, h36⟩ := zrL_some h35
  obtain ⟨q10, rfl, h37⟩ := zrI_some h36
  obtain ⟨zc35, zr36, rfl, h38⟩ := zrL_some h37
  obtain ⟨q11, rfl, h39⟩ := zrS_some h38
  obtain ⟨zc37, zr38, rfl, h40⟩ := zrL_some h39
  obtain ⟨q12, rfl, h41⟩ := zrI_some h40
  obtain ⟨zc39, zr40, rfl, h42⟩ := zrL_some h41
  obtain ⟨q13, rfl, h43⟩ := zrI_some h42
  obtain ⟨rfl, h44⟩ := zrN_some h43
  obtain ⟨rfl, h45⟩ := zrN_some h44
  have h := Option.some.inj h45
  have hu := congrArg Prod.fst h
  have hv := congrArg Prod.snd h
  dsimp only at hu hv
  subst hu
  subst hv
  exact ⟨rfl, (tm_fill (hj rfl) (Lv := [(1, .one (.p 0 0)), (2, .one (.v false (.bool q0))), (3, .one (.p 32 0)), (4, .one (.v false (.int .i64 q1)))]) (by kernel_rfl) ⟨e1, e2, e3, e4, trivial⟩).trans (by kernel_rfl), rfl⟩
theorem cou_read_ok (st : Stt) (u : cou_U) (v : cou_V) (h : cou_read st = some (u, v)) : cou_cok st = true ∧ staysA [] [32, 0] st.own = true ∧ cou_can st = cou_St u v := by
  obtain ⟨h1, h2, h3⟩ := cou_rd_ok (fun hb => by rw [Bool.and_eq_true, Bool.and_eq_true] at hb; exact hb.2.2) h
  rw [Bool.and_eq_true, Bool.and_eq_true] at h1
  refine ⟨h1.1, h1.2.1, ?_⟩
  have e : cou_can st = ⟨(cou_can st).tm, (cou_can st).own, 1035⟩ := by kernel_rfl
  rw [e, h2, h3]
  rfl
noncomputable def cou_cond (u : cou_U) (v : cou_V) : Bool := runC (cou_step u) v
noncomputable def cou_g (u : cou_U) (v : cou_V) : Nat × cou_V := runG (cou_step u) v
theorem cou_hg : ∀ (u : cou_U) (v : cou_V), cou_cond u v = true → loopN (cou_step u) ((fun u v => runF (cou_step u) v) u v) v = some (cou_g u v) := by
  exact fun u v h => run_hg h
noncomputable def cou_m (st : Stt) : Option (Tr (Ex × Stt)) := sumM cou_read cou_cond cou_St cou_g [(0, .ret), (1, .exit 0)] st
noncomputable def fsG_L51 : FuncId → Loops := addL 8 [0, 1, 0, 1, 1, 1] cou_m fsB_L54
set_option maxRecDepth 100000 in
set_option maxHeartbeats 4000000 in
theorem fsG_L51_ok : LoopsOK Try.prog fsG_L51 :=
  loop_sumF (body := (bodyOf Try.prog 8)) (c := (loopOf (bodyOf Try.prog 8) [1, 1, 1, 0, 1, 0])) (kinds := [.ret, .exit 0]) (allow := [(0, .ret), (1, .exit 0)]) (St := cou_St) (step := cou_step) (W := [0, 5, 6, 7, 8, 9, 10, 11, 12, 13, 14, 15, 16, 17, 18, 19, 20, 21, 22, 23, 24, 25, 26, 27, 28, 29, 30, 31, 32, 33, 34, 35, 36, 37, 38, 39, 40, 41, 42, 43, 44, 45, 46, 47, 48, 49, 50, 51, 52, 53, 54, 55, 56, 57, 58, 59, 60, 61, 62, 63, 64, 65, 66, 67, 68, 69, 70, 71, 72, 73, 74]) (As := []) (ks := [32, 0]) (dd := []) (nx := 1035) (n := 100000) (g := cou_g) (cond := cou_cond) (fuel := (fun u v => runF (cou_step u) v)) (read := cou_read) (by kernel_rfl) (fsD_S52_ok) (fsB_L54_ok) 7 ⟨Try.f8, by kernel_rfl, by kernel_rfl⟩ (by kernel_rfl) (by kernel_rfl) (by kernel_rfl) cou_step_eq cou_hg cou_read_ok
theorem fld_size (c : Int) : (fld c).size = 64 := by
  have : ∀ (l : List Int) (r : ByteArray), (l.foldl (fun r n => r.push (UInt8.ofNat n.toNat)) r).size = r.size + l.length := fun l => by
    induction l with
    | nil => intro r; rfl
    | cons x l ih => intro r; rw [List.foldl_cons, ih, ByteArray.size_push, List.length_cons]; omega
  unfold fld ofInts
  rw [this, List.length_replicate]; rfl
/-- The memory after writes. -/
structure CSt (n N : Int) (len : Nat) (P : List ByteArray) (F : Int) (de : Bool) (K : Int) : Prop where
  a : P.all p64 = true
  l : P.length = len
  l2 : 2 ≤ len
  l3 : len ≤ 256
  f : F = if n ≤ N then N - n + 1 else 0
  d : de = decide (N < n)
  k0 : 0 ≤ K
  k1 : K ≤ 64
theorem CSt.ok {n N : Int} {len : Nat} {P : List ByteArray} {F : Int} {de : Bool} {K : Int} (h : CSt n N len P F de K) (n1 : 1 ≤ n) (h0 : N ≤ 30) (i : Int) (i0 : 0 ≤ i) (i1 : i < 2) (c : Int) : TOk P F K i (fld c) := by
  have h2 := h.l2
  have hl := h.l
  have h3 := h.l3
  have k0 := h.k0
  have k1 := h.k1
  have hf := h.f
  have f0 : 0 ≤ F ∧ F ≤ 1048576 := by
    by_cases g : n ≤ N
    · rw [if_pos g] at hf; omega
    · rw [if_neg g] at hf; omega
  exact ⟨fvl_iff.2 ⟨h.a, by omega, by omega, f0.1, f0.2, k0, k1⟩, i0, by omega, fld_size c⟩
theorem CSt.next {n N : Int} {len : Nat} {P : List ByteArray} {F : Int} {de : Bool} {K : Int} (h : CSt n N len P F de K) (n1 : 1 ≤ n) (h0 : N ≤ 30) (i : Int) (i0 : 0 ≤ i) (i1 : i < 2) (c : Int) :
    (bif bif decide (n < N) then wrE P F de K i (fld c) != (0 : Int) else false then true else bif decide (n ≥ N) then wrE P F de K i (fld c) != (17 : Int) else false) = false ∧
    CSt (n + 1) N len (wrP P F de K i (fld c)) (wrF P F de K i (fld c)) (wrD P F de K i (fld c)) (wrK P F de K i (fld c)) := by
  have T := h.ok n1 h0 i i0 i1 c
  obtain ⟨a1, a2, a3, a4, a5, a6, a7⟩ := fvl_iff.1 T.v
  have hf := h.f
  have hd := h.d
  by_cases g : n ≤ N
  · rw [if_pos g] at hf
    rw [decide_eq_false (by omega)] at hd
    subst hd
    obtain ⟨w1, w2, w3, w4⟩ := T.wr
    obtain ⟨b1, b2, b3, b4, b5, b6, b7⟩ := fvl_iff.1 w4
    have hwf : wrF P F false K i (fld c) = bif F == 1 then 0 else max 0 (F - 1) := by unfold wrF; rw [T.wod]; rfl
    by_cases e : n = N
    · have e1 : F = 1 := by omega
      have hb : (F == 1) = true := by rw [e1]; rfl
      refine ⟨?_, b1, by rw [wr_len]; exact h.l, h.l2, h.l3, ?_, ?_, b6, b7⟩
      · rw [w2, hb, decide_eq_false (show ¬ n < N by omega), decide_eq_true (show n ≥ N by omega)]; rfl
      · rw [hwf, hb, if_neg (by omega)]; rfl
      · rw [w3, hb, decide_eq_true (by omega)]
    · have hb : (F == 1) = false := by simp; omega
      refine ⟨?_, b1, by rw [wr_len]; exact h.l, h.l2, h.l3, ?_, ?_, b6, b7⟩
      · rw [w2, hb, decide_eq_true (show n < N by omega), decide_eq_false (show ¬ n ≥ N by omega)]; rfl
      · rw [hwf, hb, if_pos (by omega)]; show max 0 (F - 1) = _; omega
      · rw [w3, hb, decide_eq_false (by omega)]
  · rw [if_neg g] at hf
    rw [decide_eq_true (by omega)] at hd
    subst hd
    have w0 := T.wod
    have e1 : wrE P F true K i (fld c) = 17 := by unfold wrE; rw [w0]; rfl
    have e2 : wrP P F true K i (fld c) = P := by unfold wrP; rw [w0]; rfl
    have e3 : wrF P F true K i (fld c) = F := by unfold wrF; rw [w0]; rfl
    have e4 : wrD P F true K i (fld c) = true := by unfold wrD; rw [w0]; rfl
    have e5 : wrK P F true K i (fld c) = K := by unfold wrK; rw [w0]; rfl
    refine ⟨?_, ?_⟩
    · rw [e1, decide_eq_false (show ¬ n < N by omega), decide_eq_true (show n ≥ N by omega)]; rfl
    · rw [e2, e3, e4, e5]
      exact ⟨h.a, h.l, h.l2, h.l3, by rw [if_neg (by omega)]; exact hf, by rw [decide_eq_true (by omega)], h.k0, h.k1⟩
theorem cou_run {N : Int} {len : Nat} {P : List ByteArray} {F : Int} {de : Bool} {K : Int} (h : CSt 1 N len P F de K) (n1 : 1 ≤ N) (n2 : N ≤ 30) (P0 : List ByteArray) (fu : Int) (dd : Bool) (ke I : Int) (D : ByteArray) (kk : Int) : cou_cond (P0, fu, dd, ke, I, D, N, kk) (false, 1, P, F, de, K) = true ∧ (cou_g (P0, fu, dd, ke, I, D, N, kk) (false, 1, P, F, de, K)).1 = 1 := by
  refine run_val (step := cou_step (P0, fu, dd, ke, I, D, N, kk)) (Inv := fun v => ∃ n P F de K, v = (false, n, P, F, de, K) ∧ 1 ≤ n ∧ n ≤ N + 3 ∧ CSt n N len P F de K) (μ := fun v => (N + 3 - v.2.1).toNat) (Q := fun r => r.1 = 1) ?_ _ _ (Nat.lt_succ_self _) ⟨1, P, F, de, K, rfl, by omega, by omega, h⟩
  rintro v ⟨n, P, F, de, K, rfl, h1, h2, hs⟩
  have w2 : IntKind.wrap IntKind.i64 (N + 2) = N + 2 := wid (by omega) (by omega)
  by_cases hn : n ≤ N + 2
  · have c1 : decide (n ≤ N + 2) = true := decide_eq_true hn
    have c2 : decide (P.length ≤ 4096) = true := decide_eq_true (by have := hs.l; have := hs.l3; omega)
    have w1 : IntKind.wrap IntKind.i64 (n + 1) = n + 1 := wid (by omega) (by omega)
    have t0 : 0 ≤ Int.tmod n 2 ∧ Int.tmod n 2 < 2 := by
      rw [Int.tmod_eq_emod_of_nonneg (by omega)]; omega
    obtain ⟨x1, x2⟩ := hs.next h1 n2 (Int.tmod n 2) t0.1 t0.2 (IntKind.wrap IntKind.u8 n)
    refine ⟨.inl (false, n + 1, wrP P F de K (Int.tmod n 2) (fld (IntKind.wrap IntKind.u8 n)), wrF P F de K (Int.tmod n 2) (fld (IntKind.wrap IntKind.u8 n)), wrD P F de K (Int.tmod n 2) (fld (IntKind.wrap IntKind.u8 n)), wrK P F de K (Int.tmod n 2) (fld (IntKind.wrap IntKind.u8 n))), ?_, ⟨n + 1, _, _, _, _, rfl, by omega, by omega, x2⟩, ?_⟩
    · simp only [cou_step, Tr.val, w2, w1, c1, c2, x1, cond_true, cond_false]
    show (N + 3 - (n + 1)).toNat < (N + 3 - n).toNat
    omega
  · have c1 : decide (n ≤ N + 2) = false := decide_eq_false hn
    exact ⟨_, by simp only [cou_step, Tr.val, w2, c1, cond_false]; rfl, rfl⟩
set_option maxRecDepth 100000 in
theorem law_FlashCounts_tree (P : (Ty.list .str).den) (fu : Int) (de : Bool) (ke : Int) (I : Int) (D : ByteArray) (N : Int) (kk : Int) : evalF Try.prog fsD_S52 (opens []) fsG_L51 9 8 [.ag [.d false false .str P, .v false (.int .i64 fu), .v false (.bool de), .v false (.int .i64 ke), .v false (.int .i64 I), .v false (.string D), .v false (.int .i64 N), .v false (.int .i64 kk)]] = .br ((bif hvy P D then (bif true then true else ((decide (List.length P ≤ (4096 : Nat))) && ((cou_cond (P, fu, de, ke, I, D, N, kk) (false, (1 : Int), P, flF P fu de ke N, flD P fu de ke N, flK P fu de ke N kk)) && (bif Nat.beq (Prod.fst (cou_g (P, fu, de, ke, I, D, N, kk) (false, (1 : Int), P, flF P fu de ke N, flD P fu de ke N, flK P fu de ke N kk))) (0 : Nat) then true else (Nat.beq (Prod.fst (cou_g (P, fu, de, ke, I, D, N, kk) (false, (1 : Int), P, flF P fu de ke N, flD P fu de ke N, flK P fu de ke N kk))) (1 : Nat)))))) else ((decide ((↑(List.length P) : Int) ≤ (9223372036854775806 : Int))) && (bif bif bif bif !fvl P fu ke then true else de then true else decide (N < (1 : Int)) then true else decide (N > (30 : Int)) then true else ((decide (List.length P ≤ (4096 : Nat))) && ((cou_cond (P, fu, de, ke, I, D, N, kk) (false, (1 : Int), P, flF P fu de ke N, flD P fu de ke N, flK P fu de ke N kk)) && (bif Nat.beq (Prod.fst (cou_g (P, fu, de, ke, I, D, N, kk) (false, (1 : Int), P, flF P fu de ke N, flD P fu de ke N, flK P fu de ke N kk))) (0 : Nat) then true else (Nat.beq (Prod.fst (cou_g (P, fu, de, ke, I, D, N, kk) (false, (1 : Int), P, flF P fu de ke N, flD P fu de ke N, flK P fu de ke N kk))) (1 : Nat))))))))) (.ret (.one (.v false (.bool (bif hvy P D then true else bif bif bif bif !fvl P fu ke then true else de then true else decide (N < (1 : Int)) then true else decide (N > (30 : Int)) then true else bif Nat.beq (Prod.fst (cou_g (P, fu, de, ke, I, D, N, kk) (false, (1 : Int), P, flF P fu de ke N, flD P fu de ke N, flK P fu de ke N kk))) (0 : Nat) then Prod.fst (Prod.snd (cou_g (P, fu, de, ke, I, D, N, kk) (false, (1 : Int), P, flF P fu de ke N, flD P fu de ke N, flK P fu de ke N kk))) else true))))) (.bad 116) := by kernel_rfl
set_option maxHeartbeats 4000000 in
theorem law_FlashCounts_all (P : (Ty.list .str).den) (fu : Int) (de : Bool) (ke : Int) (I : Int) (D : ByteArray) (N : Int) (kk : Int) (r0 : Ty.InR (.prod (.prod (.list .str) (.prod (.int .i64) (.prod .bool (.int .i64)))) (.prod (.int .i64) (.prod .str (.prod (.int .i64) (.int .i64))))) ((P, (fu, (de, ke))), (I, (D, (N, kk)))))  : Tr.all (fun r => ∃ kn, r = AV.one (.v kn (.bool true))) (.br ((bif hvy P D then (bif true then true else ((decide (List.length P ≤ (4096 : Nat))) && ((cou_cond (P, fu, de, ke, I, D, N, kk) (false, (1 : Int), P, flF P fu de ke N, flD P fu de ke N, flK P fu de ke N kk)) && (bif Nat.beq (Prod.fst (cou_g (P, fu, de, ke, I, D, N, kk) (false, (1 : Int), P, flF P fu de ke N, flD P fu de ke N, flK P fu de ke N kk))) (0 : Nat) then true else (Nat.beq (Prod.fst (cou_g (P, fu, de, ke, I, D, N, kk) (false, (1 : Int), P, flF P fu de ke N, flD P fu de ke N, flK P fu de ke N kk))) (1 : Nat)))))) else ((decide ((↑(List.length P) : Int) ≤ (9223372036854775806 : Int))) && (bif bif bif bif !fvl P fu ke then true else de then true else decide (N < (1 : Int)) then true else decide (N > (30 : Int)) then true else ((decide (List.length P ≤ (4096 : Nat))) && ((cou_cond (P, fu, de, ke, I, D, N, kk) (false, (1 : Int), P, flF P fu de ke N, flD P fu de ke N, flK P fu de ke N kk)) && (bif Nat.beq (Prod.fst (cou_g (P, fu, de, ke, I, D, N, kk) (false, (1 : Int), P, flF P fu de ke N, flD P fu de ke N, flK P fu de ke N kk))) (0 : Nat) then true else (Nat.beq (Prod.fst (cou_g (P, fu, de, ke, I, D, N, kk) (false, (1 : Int), P, flF P fu de ke N, flD P fu de ke N, flK P fu de ke N kk))) (1 : Nat))))))))) (.ret (.one (.v false (.bool (bif hvy P D then true else bif bif bif bif !fvl P fu ke then true else de then true else decide (N < (1 : Int)) then true else decide (N > (30 : Int)) then true else bif Nat.beq (Prod.fst (cou_g (P, fu, de, ke, I, D, N, kk) (false, (1 : Int), P, flF P fu de ke N, flD P fu de ke N, flK P fu de ke N kk))) (0 : Nat) then Prod.fst (Prod.snd (cou_g (P, fu, de, ke, I, D, N, kk) (false, (1 : Int), P, flF P fu de ke N, flD P fu de ke N, flK P fu de ke N kk))) else true))))) (.bad 116)) := by
  cases hv : hvy P D
  · obtain ⟨h1, h2⟩ := hvy_len hv
    have l1 := len4 h1
    have l2 := lenI (n := List.length P) (by omega)
    by_cases hok : fvl P fu ke = true ∧ de = false ∧ 1 ≤ N ∧ N ≤ 30
    · obtain ⟨v1, rfl, v3, v4⟩ := hok
      obtain ⟨a1, a2, a3, a4, a5, a6, a7⟩ := fvl_iff.1 v1
      have C : (bif bif bif !fvl P fu ke then true else false then true else decide (N < (1 : Int)) then true else decide (N > (30 : Int))) = false := by
        rw [v1, decide_eq_false (show ¬ N < 1 by omega), decide_eq_false (show ¬ N > 30 by omega)]; rfl
      have f1 : flF P fu false ke N = N := by
        unfold flF
        rw [v1, decide_eq_false (show ¬ N < 1 by omega)]
        show min N 1048576 = N
        omega
      have f2 : flD P fu false ke N = false := by
        unfold flD
        rw [v1, decide_eq_false (show ¬ N < 1 by omega)]; rfl
      have f3 : 0 ≤ flK P fu false ke N kk ∧ flK P fu false ke N kk ≤ 64 := by
        unfold flK
        rw [v1, decide_eq_false (show ¬ N < 1 by omega)]
        show 0 ≤ max 0 (min kk 64) ∧ max 0 (min kk 64) ≤ 64
        omega
      obtain ⟨r1, r2⟩ := cou_run (N := N) (len := P.length) (P := P) (F := flF P fu false ke N) (de := flD P fu false ke N) (K := flK P fu false ke N kk) ⟨a1, rfl, a2, a3, by rw [f1, if_pos v3]; omega, by rw [f2, decide_eq_false (by omega)], f3.1, f3.2⟩ v3 v4 P fu false ke I D kk
      simp only [C, r1, r2, l1, l2, cond_true, cond_false, Bool.and_self, Nat.beq]
      exact ⟨fun _ => ⟨_, rfl⟩, fun h => by cases h⟩
    · have C : (bif bif bif !fvl P fu ke then true else de then true else decide (N < (1 : Int)) then true else decide (N > (30 : Int))) = true := by
        rw [← Bool.not_eq_false]
        intro h
        apply hok
        revert h
        cases fvl P fu ke <;> cases de <;> simp [Bool.cond_eq_ite] <;> omega
      simp only [C, l1, l2, Bool.and_self, cond_true, cond_false]
      exact ⟨fun _ => ⟨_, rfl⟩, fun h => by cases h⟩
  · simp only [cond_true]
    exact ⟨fun _ => ⟨_, rfl⟩, fun h => by cases h⟩
set_option maxHeartbeats 4000000 in
theorem law_FlashCounts (v0 : Value) (x0 : ((.prod (.prod (.list .str) (.prod (.int .i64) (.prod .bool (.int .i64)))) (.prod (.int .i64) (.prod .str (.prod (.int .i64) (.int .i64))))) : Ty).den) (r0 : Ty.InR (.prod (.prod (.list .str) (.prod (.int .i64) (.prod .bool (.int .i64)))) (.prod (.int .i64) (.prod .str (.prod (.int .i64) (.int .i64))))) x0) (z_w : World) (i0 : (AV.ag (Ty.cells false (.prod (.prod (.list .str) (.prod (.int .i64) (.prod .bool (.int .i64)))) (.prod (.int .i64) (.prod .str (.prod (.int .i64) (.int .i64))))) x0)).is [] (fun _ => none) (fun b => b < z_w.heap.size) z_w v0) : Calls Try.prog 8 #[v0] z_w fun e w' => e = .returned (.bool true) ∧ Ext z_w w' := by
  obtain ⟨⟨P, ⟨fu, ⟨de, ke⟩⟩⟩, ⟨I, ⟨D, ⟨N, kk⟩⟩⟩⟩ := x0
  refine law_of_tree (by kernel_rfl) (fsD_S52_ok) (fsG_L51_ok) (law_FlashCounts_tree P fu de ke I D N kk) (law_FlashCounts_all P fu de ke I D N kk r0 ) rfl z_w _ _ (fun _ h => h) ⟨_, _, rfl, i0, rfl⟩
end Go.Proofs.Ytabjagbdaamaaaa
