/-
  Layer 7: MeshLimits.
-/
import Derived.Test.YtbagcmeeiiohpaaProg
import Derived.Test.YtbagcmeeiiohpaaFvX
import Derived.Test.YtbagcmeeiiohpaaFvZ
import Derived.Test.YtbagcmeeiiohpaaAut
import Derived.Test.YtbagcmeeiiohpaaRd
import Derived.Test.YtbagcmeeiiohpaaPl
import Derived.Test.YtbagcmeeiiohpaaSeA
import Derived.Test.YtbagcmeeiiohpaaSeB
import Derived.Test.YtbagcmeeiiohpaaSeC
import Derived.Test.YtbagcmeeiiohpaaSeD
import Derived.Test.YtbagcmeeiiohpaaMeW
import Derived.Test.YtbagcmeeiiohpaaMlA
namespace Go.Proofs.Ytbagcmeeiiohpaa
open Go
abbrev wd0_U : Type := Int × Int
abbrev wd0_V : Type := (Ty.list (.prod (.int .i64) (.prod (.int .i64) (.int .i64)))).den
noncomputable def wd0_St (u : wd0_U) (v : wd0_V) : Stt := ⟨[.one (.v false (.int .i64 u.1)), .one (.v false (.int .i64 u.2)), .one .junk, .one .junk, .one (.p 0 0), .one (.p 1 0), .one .junk, .one .junk, .one .junk, .one .junk, .one .junk, .one .junk, .one .junk, .one .junk, .one .junk, .one .junk, .one .junk, .one .junk, .one .junk, .one .junk, .one .junk, .one .junk, .one .junk, .one .junk, .one .junk, .one .junk, .one .junk, .one .junk, .one .junk, .one .junk, .one .junk, .one .junk], [(1, .cells [.s false 980 0 (none), .v false (Value.slice none (0 : Nat) (0 : Nat))]), (0, .cells [.v false (Value.slice none (0 : Nat) (0 : Nat)), .v false (Value.slice none (0 : Nat) (0 : Nat))]), (980, .row true false false 29 (.prod (.int .i64) (.prod (.int .i64) (.int .i64))) v)], 1002⟩
noncomputable def wd0_step (u : wd0_U) (v : wd0_V) : Tr (wd0_V ⊕ (Nat × wd0_V)) :=
  match u, v with
  | (q0, _), q2 => .br (decide ((↑(List.length q2) : Int) < q0)) (.br (decide ((List.length q2 + (1 : Nat)) * (24 : Nat) ≤ maxNew) && decide (List.length q2 + (1 : Nat) ≤ maxLen)) (.ret (.inl (q2 ++ [((↑(List.length q2) : Int), (0 : Int), (0 : Int))]))) (.bad 71)) (.ret (.inr (0, q2)))
set_option maxRecDepth 100000 in
set_option maxHeartbeats 4000000 in
theorem wd0_step_eq : ∀ (u : wd0_U) (v : wd0_V), (evalC Try.prog (evalB Try.prog mlA_S52 (opens []) mlA_L51 7).1 (evalB Try.prog mlA_S52 (opens []) mlA_L51 7).2 (opens []) (mlA_L51 13) 100000 (0 :: [0, 0, 1, 1]) (loopOf (bodyOf Try.prog 13) [1, 1, 0, 0]) (wd0_St u v) []).bind (finF [2, 3, 6, 7, 8, 9, 10, 11, 12, 13, 14, 15, 16, 17, 18, 19, 20, 21, 22, 23, 24, 25, 26, 27, 28, 29, 30, 31] [⟨980, none, 1, 0, 29, (.prod (.int .i64) (.prod (.int .i64) (.int .i64)))⟩] [1, 0, 980] [1014] 1002) = (wd0_step u v).bind (outA (wd0_St u) [.exit 0]) := by
  rintro ⟨q0, q1⟩ q2
  kernel_rfl
noncomputable def wd0_rd (b : Bool) (o0 : Option AV) (o1 : Option AV) (o4 : Option AV) (o5 : Option AV) (own : Own) : Option (wd0_U × wd0_V) := zrT b <| zrO o0 fun za1 => zrA1 za1 fun zc2 => zrI .i64 zc2 fun q0 => zrO o1 fun za3 => zrA1 za3 fun zc4 => zrI .i64 zc4 fun q1 => zrO o4 fun za5 => zrA1 za5 fun zc6 => zrP 0 0 zc6 <| zrO o5 fun za7 => zrA1 za7 fun zc8 => zrP 1 0 zc8 <| zrL own fun zq9 zw10 => zrKey 1 zq9 fun zk11 => zrC zk11 fun zl12 => zrL zl12 fun zc13 zr14 => zrSl 980 0 (none) zc13 <| zrL zr14 fun zc15 zr16 => zrNil zc15 <| zrN zr16 <| zrL zw10 fun zq17 zw18 => zrKey 0 zq17 fun zk19 => zrC zk19 fun zl20 => zrL zl20 fun zc21 zr22 => zrNil zc21 <| zrL zr22 fun zc23 zr24 => zrNil zc23 <| zrN zr24 <| zrL zw18 fun zq25 zw26 => zrKey 980 zq25 fun zk27 => zrR true 29 (.prod (.int .i64) (.prod (.int .i64) (.int .i64))) zk27 fun q2 => zrN zw26 <| some ((q0, q1), q2)
noncomputable def wd0_can (st : Stt) : Stt := canA [2, 3, 6, 7, 8, 9, 10, 11, 12, 13, 14, 15, 16, 17, 18, 19, 20, 21, 22, 23, 24, 25, 26, 27, 28, 29, 30, 31] [⟨980, none, 1, 0, 29, (.prod (.int .i64) (.prod (.int .i64) (.int .i64)))⟩] [1, 0, 980] [1014] 1002 st
noncomputable def wd0_cok (st : Stt) : Bool := canAok [2, 3, 6, 7, 8, 9, 10, 11, 12, 13, 14, 15, 16, 17, 18, 19, 20, 21, 22, 23, 24, 25, 26, 27, 28, 29, 30, 31] [⟨980, none, 1, 0, 29, (.prod (.int .i64) (.prod (.int .i64) (.int .i64)))⟩] [1, 0, 980] [1014] 1002 st
noncomputable def wd0_read (st : Stt) : Option (wd0_U × wd0_V) := wd0_rd (wd0_cok st && (staysA [⟨980, none, 1, 0, 29, (.prod (.int .i64) (.prod (.int .i64) (.int .i64)))⟩] [1, 0, 980] st.own && juAll [2, 3, 6, 7, 8, 9, 10, 11, 12, 13, 14, 15, 16, 17, 18, 19, 20, 21, 22, 23, 24, 25, 26, 27, 28, 29, 30, 31] (wd0_can st).tm 32)) (wd0_can st).tm[0]? (wd0_can st).tm[1]? (wd0_can st).tm[4]? (wd0_can st).tm[5]? (wd0_can st).own
set_option maxRecDepth 100000 in
set_option maxHeartbeats 4000000 in
theorem wd0_rd_ok {b : Bool} {tm : List AV} {own : Own} {u : wd0_U} {v : wd0_V} (hj : b = true → juAll [2, 3, 6, 7, 8, 9, 10, 11, 12, 13, 14, 15, 16, 17, 18, 19, 20, 21, 22, 23, 24, 25, 26, 27, 28, 29, 30, 31] tm 32 = true) (h : wd0_rd b tm[0]? tm[1]? tm[4]? tm[5]? own = some (u, v)) : b = true ∧ tm = (wd0_St u v).tm ∧ own = (wd0_St u v).own := by
  unfold wd0_rd at h
  obtain ⟨rfl, h0⟩ := zrT_some h
  obtain ⟨za1, e0, h1⟩ := zrO_some h0
  obtain ⟨zc2, rfl, h2⟩ := zrA1_some h1
  obtain ⟨q0, rfl, h3⟩ := zrI_some h2
  obtain ⟨za3, e1, h4⟩ := zrO_some h3
  obtain ⟨zc4, rfl, h5⟩ := zrA1_some h4
  obtain ⟨q1, rfl, h6⟩ := zrI_some h5
  obtain ⟨za5, e4, h7⟩ := zrO_some h6
  obtain ⟨zc6, rfl, h8⟩ := zrA1_some h7
  obtain ⟨rfl, h9⟩ := zrP_some h8
  obtain ⟨za7, e5, h10⟩ := zrO_some h9
  obtain ⟨zc8, rfl, h11⟩ := zrA1_some h10
  obtain ⟨rfl, h12⟩ := zrP_some h11
  obtain ⟨zq9, zw10, rfl, h13⟩ := zrL_some h12
  obtain ⟨zk11, rfl, h14⟩ := zrKey_some h13
  obtain ⟨zl12, rfl, h15⟩ := zrC_some h14
  obtain ⟨zc13, zr14, rfl, h16⟩ := zrL_some h15
  obtain ⟨rfl, h17⟩ := zrSl_some h16
  obtain ⟨zc15, zr16, rfl, h18⟩ := zrL_some h17
  obtain ⟨rfl, h19⟩ := zrNil_some h18
  obtain ⟨rfl, h20⟩ := zrN_some h19
  obtain ⟨zq17, zw18, rfl, h21⟩ := zrL_some h20
  obtain ⟨zk19, rfl, h22⟩ := zrKey_some h21
  obtain ⟨zl20, rfl, h23⟩ := zrC_some h22
  obtain ⟨zc21, zr22, rfl, h24⟩ := zrL_some h23
  obtain ⟨rfl, h25⟩ := zrNil_some h24
  obtain ⟨zc23, zr24, rfl, h26⟩ := zrL_some h25
  obtain ⟨rfl, h27⟩ := zrNil_some h26
  obtain ⟨rfl, h28⟩ := zrN_some h27
  obtain ⟨zq25, zw26, rfl, h29⟩ := zrL_some h28
  obtain ⟨zk27, rfl, h30⟩ := zrKey_some h29
  obtain ⟨q2, rfl, h31⟩ := zrR_some h30
  obtain ⟨rfl, h32⟩ := zrN_some h31
  have h := Option.some.inj h32
  have hu := congrArg Prod.fst h
  have hv := congrArg Prod.snd h
  dsimp only at hu hv
  subst hu
  subst hv
  exact ⟨rfl, (tm_fill (hj rfl) (Lv := [(0, .one (.v false (.int .i64 q0))), (1, .one (.v false (.int .i64 q1))), (4, .one (.p 0 0)), (5, .one (.p 1 0))]) (by kernel_rfl) ⟨e0, e1, e4, e5, trivial⟩).trans (by kernel_rfl), rfl⟩
theorem wd0_read_ok (st : Stt) (u : wd0_U) (v : wd0_V) (h : wd0_read st = some (u, v)) : wd0_cok st = true ∧ staysA [⟨980, none, 1, 0, 29, (.prod (.int .i64) (.prod (.int .i64) (.int .i64)))⟩] [1, 0, 980] st.own = true ∧ wd0_can st = wd0_St u v := by
  obtain ⟨h1, h2, h3⟩ := wd0_rd_ok (fun hb => by rw [Bool.and_eq_true, Bool.and_eq_true] at hb; exact hb.2.2) h
  rw [Bool.and_eq_true, Bool.and_eq_true] at h1
  refine ⟨h1.1, h1.2.1, ?_⟩
  have e : wd0_can st = ⟨(wd0_can st).tm, (wd0_can st).own, 1002⟩ := by kernel_rfl
  rw [e, h2, h3]
  rfl
noncomputable def wd0_cond (u : wd0_U) (v : wd0_V) : Bool := runC (wd0_step u) v
noncomputable def wd0_g (u : wd0_U) (v : wd0_V) : Nat × wd0_V := runG (wd0_step u) v
theorem wd0_hg : ∀ (u : wd0_U) (v : wd0_V), wd0_cond u v = true → loopN (wd0_step u) ((fun u v => runF (wd0_step u) v) u v) v = some (wd0_g u v) := by
  exact fun u v h => run_hg h
noncomputable def wd0_m (st : Stt) : Option (Tr (Ex × Stt)) := sumM wd0_read wd0_cond wd0_St wd0_g [(0, .exit 0)] st
noncomputable def mlB_L51 : FuncId → Loops := addL 13 [0, 0, 1, 1] wd0_m mlA_L51
set_option maxRecDepth 100000 in
set_option maxHeartbeats 4000000 in
theorem mlB_L51_ok : LoopsOK Try.prog mlB_L51 :=
  loop_sumF (body := (bodyOf Try.prog 13)) (c := (loopOf (bodyOf Try.prog 13) [1, 1, 0, 0])) (kinds := [.exit 0]) (allow := [(0, .exit 0)]) (St := wd0_St) (step := wd0_step) (W := [2, 3, 6, 7, 8, 9, 10, 11, 12, 13, 14, 15, 16, 17, 18, 19, 20, 21, 22, 23, 24, 25, 26, 27, 28, 29, 30, 31]) (As := [⟨980, none, 1, 0, 29, (.prod (.int .i64) (.prod (.int .i64) (.int .i64)))⟩]) (ks := [1, 0, 980]) (dd := [1014]) (nx := 1002) (n := 100000) (g := wd0_g) (cond := wd0_cond) (fuel := (fun u v => runF (wd0_step u) v)) (read := wd0_read) (by kernel_rfl) (mlA_S52_ok) (mlA_L51_ok) 7 ⟨Try.f13, by kernel_rfl, by kernel_rfl⟩ (by kernel_rfl) (by kernel_rfl) (by kernel_rfl) wd0_step_eq wd0_hg wd0_read_ok
abbrev wd1_U : Type := Int × (Ty.list (.prod (.int .i64) (.prod (.int .i64) (.int .i64)))).den
abbrev wd1_V : Type := (Ty.list (.prod (.int .i64) (.prod (.int .i64) (.int .i64)))).den
noncomputable def wd1_St (u : wd1_U) (v : wd1_V) : Stt := ⟨[.one .junk, .one (.v false (.int .i64 u.1)), .one .junk, .one .junk, .one (.p 0 0), .one (.p 1 0), .one .junk, .one .junk, .one .junk, .one .junk, .one .junk, .one .junk, .one .junk, .one .junk, .one .junk, .one .junk, .one .junk, .one .junk, .one .junk, .one .junk, .one .junk, .one .junk, .one .junk, .one .junk, .one .junk, .one .junk, .one .junk, .one .junk, .one .junk, .one .junk, .one .junk, .one .junk], [(1, .cells [.s false 980 0 (none), .s false 960 0 (none)]), (0, .cells [.v false (Value.slice none (0 : Nat) (0 : Nat)), .v false (Value.slice none (0 : Nat) (0 : Nat))]), (980, .row true false false 29 (.prod (.int .i64) (.prod (.int .i64) (.int .i64))) u.2), (960, .row true false false 47 (.prod (.int .i64) (.prod (.int .i64) (.int .i64))) v)], 2002⟩
noncomputable def wd1_step (u : wd1_U) (v : wd1_V) : Tr (wd1_V ⊕ (Nat × wd1_V)) :=
  match u, v with
  | (q0, _), q2 => .br (decide ((↑(List.length q2) : Int) < q0)) (.br (decide ((List.length q2 + (1 : Nat)) * (24 : Nat) ≤ maxNew) && decide (List.length q2 + (1 : Nat) ≤ maxLen)) (.ret (.inl (q2 ++ [((0 : Int), (0 : Int), (0 : Int))]))) (.bad 71)) (.ret (.inr (0, q2)))
set_option maxRecDepth 100000 in
set_option maxHeartbeats 4000000 in
theorem wd1_step_eq : ∀ (u : wd1_U) (v : wd1_V), (evalC Try.prog (evalB Try.prog mlA_S52 (opens []) mlB_L51 7).1 (evalB Try.prog mlA_S52 (opens []) mlB_L51 7).2 (opens []) (mlB_L51 13) 100000 (0 :: [0, 0, 1, 1, 1]) (loopOf (bodyOf Try.prog 13) [1, 1, 1, 0, 0]) (wd1_St u v) []).bind (finF [0, 2, 3, 6, 7, 8, 9, 10, 11, 12, 13, 14, 15, 16, 17, 18, 19, 20, 21, 22, 23, 24, 25, 26, 27, 28, 29, 30, 31] [⟨960, none, 1, 1, 47, (.prod (.int .i64) (.prod (.int .i64) (.int .i64)))⟩] [1, 0, 980, 960] [2011] 2002) = (wd1_step u v).bind (outA (wd1_St u) [.exit 2]) := by
  rintro ⟨q0, q1⟩ q2
  kernel_rfl
noncomputable def wd1_rd (b : Bool) (o1 : Option AV) (o4 : Option AV) (o5 : Option AV) (own : Own) : Option (wd1_U × wd1_V) := zrT b <| zrO o1 fun za1 => zrA1 za1 fun zc2 => zrI .i64 zc2 fun q0 => zrO o4 fun za3 => zrA1 za3 fun zc4 => zrP 0 0 zc4 <| zrO o5 fun za5 => zrA1 za5 fun zc6 => zrP 1 0 zc6 <| zrL own fun zq7 zw8 => zrKey 1 zq7 fun zk9 => zrC zk9 fun zl10 => zrL zl10 fun zc11 zr12 => zrSl 980 0 (none) zc11 <| zrL zr12 fun zc13 zr14 => zrSl 960 0 (none) zc13 <| zrN zr14 <| zrL zw8 fun zq15 zw16 => zrKey 0 zq15 fun zk17 => zrC zk17 fun zl18 => zrL zl18 fun zc19 zr20 => zrNil zc19 <| zrL zr20 fun zc21 zr22 => zrNil zc21 <| zrN zr22 <| zrL zw16 fun zq23 zw24 => zrKey 980 zq23 fun zk25 => zrR true 29 (.prod (.int .i64) (.prod (.int .i64) (.int .i64))) zk25 fun q1 => zrL zw24 fun zq26 zw27 => zrKey 960 zq26 fun zk28 => zrR true 47 (.prod (.int .i64) (.prod (.int .i64) (.int .i64))) zk28 fun q2 => zrN zw27 <| some ((q0, q1), q2)
noncomputable def wd1_can (st : Stt) : Stt := canA [0, 2, 3, 6, 7, 8, 9, 10, 11, 12, 13, 14, 15, 16, 17, 18, 19, 20, 21, 22, 23, 24, 25, 26, 27, 28, 29, 30, 31] [⟨960, none, 1, 1, 47, (.prod (.int .i64) (.prod (.int .i64) (.int .i64)))⟩] [1, 0, 980, 960] [2011] 2002 st
noncomputable def wd1_cok (st : Stt) : Bool := canAok [0, 2, 3, 6, 7, 8, 9, 10, 11, 12, 13, 14, 15, 16, 17, 18, 19, 20, 21, 22, 23, 24, 25, 26, 27, 28, 29, 30, 31] [⟨960, none, 1, 1, 47, (.prod (.int .i64) (.prod (.int .i64) (.int .i64)))⟩] [1, 0, 980, 960] [2011] 2002 st
noncomputable def wd1_read (st : Stt) : Option (wd1_U × wd1_V) := wd1_rd (wd1_cok st && (staysA [⟨960, none, 1, 1, 47, (.prod (.int .i64) (.prod (.int .i64) (.int .i64)))⟩] [1, 0, 980, 960] st.own && juAll [0, 2, 3, 6, 7, 8, 9, 10, 11, 12, 13, 14, 15, 16, 17, 18, 19, 20, 21, 22, 23, 24, 25, 26, 27, 28, 29, 30, 31] (wd1_can st).tm 32)) (wd1_can st).tm[1]? (wd1_can st).tm[4]? (wd1_can st).tm[5]? (wd1_can st).own
set_option maxRecDepth 100000 in
set_option maxHeartbeats 4000000 in
theorem wd1_rd_ok {b : Bool} {tm : List AV} {own : Own} {u : wd1_U} {v : wd1_V} (hj : b = true → juAll [0, 2, 3, 6, 7, 8, 9, 10, 11, 12, 13, 14, 15, 16, 17, 18, 19, 20, 21, 22, 23, 24, 25, 26, 27, 28, 29, 30, 31] tm 32 = true) (h : wd1_rd b tm[1]? tm[4]? tm[5]? own = some (u, v)) : b = true ∧ tm = (wd1_St u v).tm ∧ own = (wd1_St u v).own := by
  unfold wd1_rd at h
  obtain ⟨rfl, h0⟩ := zrT_some h
  obtain ⟨za1, e1, h1⟩ := zrO_some h0
  obtain ⟨zc2, rfl, h2⟩ := zrA1_some h1
  obtain ⟨q0, rfl, h3⟩ := zrI_some h2
  obtain ⟨za3, e4, h4⟩ := zrO_some h3
  obtain ⟨zc4, rfl, h5⟩ := zrA1_some h4
  obtain ⟨rfl, h6⟩ := zrP_some h5
  obtain ⟨za5, e5, h7⟩ := zrO_some h6
  obtain ⟨zc6, rfl, h8⟩ := zrA1_some h7
  obtain ⟨rfl, h9⟩ := zrP_some h8
  obtain ⟨zq7, zw8, rfl, h10⟩ := zrL_some h9
  obtain ⟨zk9, rfl, h11⟩ := zrKey_some h10
  obtain ⟨zl10, rfl, h12⟩ := zrC_some h11
  obtain ⟨zc11, zr12, rfl, h13⟩ := zrL_some h12
  obtain ⟨rfl, h14⟩ := zrSl_some h13
  obtain ⟨zc13, zr14, rfl, h15⟩ := zrL_some h14
  obtain ⟨rfl, h16⟩ := zrSl_some h15
  obtain ⟨rfl, h17⟩ := zrN_some h16
  obtain ⟨zq15, zw16, rfl, h18⟩ := zrL_some h17
  obtain ⟨zk17, rfl, h19⟩ := zrKey_some h18
  obtain ⟨zl18, rfl, h20⟩ := zrC_some h19
  obtain ⟨zc19, zr20, rfl, h21⟩ := zrL_some h20
  obtain ⟨rfl, h22⟩ := zrNil_some h21
  obtain ⟨zc21, zr22, rfl, h23⟩ := zrL_some h22
  obtain ⟨rfl, h24⟩ := zrNil_some h23
  obtain ⟨rfl, h25⟩ := zrN_some h24
  obtain ⟨zq23, zw24, rfl, h26⟩ := zrL_some h25
  obtain ⟨zk25, rfl, h27⟩ := zrKey_some h26
  obtain ⟨q1, rfl, h28⟩ := zrR_some h27
  obtain ⟨zq26, zw27, rfl, h29⟩ := zrL_some h28
  obtain ⟨zk28, rfl, h30⟩ := zrKey_some h29
  obtain ⟨q2, rfl, h31⟩ := zrR_some h30
  obtain ⟨rfl, h32⟩ := zrN_some h31
  have h := Option.some.inj h32
  have hu := congrArg Prod.fst h
  have hv := congrArg Prod.snd h
  dsimp only at hu hv
  subst hu
  subst hv
  exact ⟨rfl, (tm_fill (hj rfl) (Lv := [(1, .one (.v false (.int .i64 q0))), (4, .one (.p 0 0)), (5, .one (.p 1 0))]) (by kernel_rfl) ⟨e1, e4, e5, trivial⟩).trans (by kernel_rfl), rfl⟩
theorem wd1_read_ok (st : Stt) (u : wd1_U) (v : wd1_V) (h : wd1_read st = some (u, v)) : wd1_cok st = true ∧ staysA [⟨960, none, 1, 1, 47, (.prod (.int .i64) (.prod (.int .i64) (.int .i64)))⟩] [1, 0, 980, 960] st.own = true ∧ wd1_can st = wd1_St u v := by
  obtain ⟨h1, h2, h3⟩ := wd1_rd_ok (fun hb => by rw [Bool.and_eq_true, Bool.and_eq_true] at hb; exact hb.2.2) h
  rw [Bool.and_eq_true, Bool.and_eq_true] at h1
  refine ⟨h1.1, h1.2.1, ?_⟩
  have e : wd1_can st = ⟨(wd1_can st).tm, (wd1_can st).own, 2002⟩ := by kernel_rfl
  rw [e, h2, h3]
  rfl
noncomputable def wd1_cond (u : wd1_U) (v : wd1_V) : Bool := runC (wd1_step u) v
noncomputable def wd1_g (u : wd1_U) (v : wd1_V) : Nat × wd1_V := runG (wd1_step u) v
theorem wd1_hg : ∀ (u : wd1_U) (v : wd1_V), wd1_cond u v = true → loopN (wd1_step u) ((fun u v => runF (wd1_step u) v) u v) v = some (wd1_g u v) := by
  exact fun u v h => run_hg h
noncomputable def wd1_m (st : Stt) : Option (Tr (Ex × Stt)) := sumM wd1_read wd1_cond wd1_St wd1_g [(0, .exit 2)] st
noncomputable def mlB_L52 : FuncId → Loops := addL 13 [0, 0, 1, 1, 1] wd1_m mlB_L51
set_option maxRecDepth 100000 in
set_option maxHeartbeats 4000000 in
theorem mlB_L52_ok : LoopsOK Try.prog mlB_L52 :=
  loop_sumF (body := (bodyOf Try.prog 13)) (c := (loopOf (bodyOf Try.prog 13) [1, 1, 1, 0, 0])) (kinds := [.exit 2]) (allow := [(0, .exit 2)]) (St := wd1_St) (step := wd1_step) (W := [0, 2, 3, 6, 7, 8, 9, 10, 11, 12, 13, 14, 15, 16, 17, 18, 19, 20, 21, 22, 23, 24, 25, 26, 27, 28, 29, 30, 31]) (As := [⟨960, none, 1, 1, 47, (.prod (.int .i64) (.prod (.int .i64) (.int .i64)))⟩]) (ks := [1, 0, 980, 960]) (dd := [2011]) (nx := 2002) (n := 100000) (g := wd1_g) (cond := wd1_cond) (fuel := (fun u v => runF (wd1_step u) v)) (read := wd1_read) (by kernel_rfl) (mlA_S52_ok) (mlB_L51_ok) 7 ⟨Try.f13, by kernel_rfl, by kernel_rfl⟩ (by kernel_rfl) (by kernel_rfl) (by kernel_rfl) wd1_step_eq wd1_hg wd1_read_ok
def wdV (n : Nat) : List (Int × (Int × Int)) := tab n (fun i => ((i : Int), (0 : Int), (0 : Int)))
def wdT (n : Nat) : List (Int × (Int × Int)) := List.replicate n ((0 : Int), (0 : Int), (0 : Int))
def okN (v t : Int) : Bool := decide (0 ≤ v) && decide (v ≤ 10000) && decide (0 ≤ t) && decide (t ≤ 10000)
theorem rm24 {n : Nat} (h : n ≤ 100000) : decide (n * (24 : Nat) ≤ maxNew) = true ∧ decide (n ≤ maxLen) = true := ⟨decide_eq_true (by unfold maxNew; omega), decide_eq_true (by unfold maxLen; omega)⟩
theorem ltt {i n : Nat} (h : i < n) : decide ((i : Int) < (n : Int)) = true := decide_eq_true (by omega)
theorem wd0_run {n : Nat} {t : Int} (h : n ≤ 10000) : wd0_cond ((n : Int), t) [] = true ∧ wd0_g ((n : Int), t) [] = (0, wdV n) := by
  refine run_steps (step := wd0_step ((n : Int), t)) (St := fun j => wdV j) (n := n) (t := (0, wdV n)) ?_ n 0 (Nat.zero_add _) (fun j _ hj => ?_)
  · have e : ((wdV n).length : Int) = n := by unfold wdV; rw [tab_length]
    simp only [wd0_step, Tr.val, e, Int.lt_irrefl, decide_false, cond_false]
  · have e : (wdV j).length = j := by unfold wdV; rw [tab_length]
    obtain ⟨r1, r2⟩ := rm24 (n := j + 1) (by omega)
    have ts : wdV (j + 1) = wdV j ++ [((j : Int), (0 : Int), (0 : Int))] := tab_succ j _
    simp only [wd0_step, Tr.val, e, ltt hj, r1, r2, ts, Bool.and_self, cond_true]
theorem wd1_run {n : Nat} {V : List (Int × (Int × Int))} (h : n ≤ 10000) : wd1_cond ((n : Int), V) [] = true ∧ wd1_g ((n : Int), V) [] = (0, wdT n) := by
  refine run_steps (step := wd1_step ((n : Int), V)) (St := fun j => wdT j) (n := n) (t := (0, wdT n)) ?_ n 0 (Nat.zero_add _) (fun j _ hj => ?_)
  · have e : ((wdT n).length : Int) = n := by unfold wdT; rw [List.length_replicate]
    simp only [wd1_step, Tr.val, e, Int.lt_irrefl, decide_false, cond_false]
  · have e : (wdT j).length = j := by unfold wdT; rw [List.length_replicate]
    obtain ⟨r1, r2⟩ := rm24 (n := j + 1) (by omega)
    have ts : wdT (j + 1) = wdT j ++ [((0 : Int), (0 : Int), (0 : Int))] := List.replicate_succ'
    simp only [wd1_step, Tr.val, e, ltt hj, r1, r2, ts, Bool.and_self, cond_true]
set_option maxRecDepth 100000 in
theorem wdc_tree (v : Int) (t : Int) : evalF Try.prog mlA_S52 (opens []) mlB_L52 9 13 [.one (.v false (.int .i64 v)), .one (.v false (.int .i64 t))] = .br (((wd0_cond (v, t) []) && ((Nat.beq (Prod.fst (wd0_g (v, t) [])) (0 : Nat)) && ((wd1_cond (t, Prod.snd (wd0_g (v, t) [])) []) && (Nat.beq (Prod.fst (wd1_g (t, Prod.snd (wd0_g (v, t) [])) [])) (0 : Nat)))))) (.ret (.ag [.d false false (.prod (.int .i64) (.prod (.int .i64) (.int .i64))) (Prod.snd (wd0_g (v, t) [])), .d false false (.prod (.int .i64) (.prod (.int .i64) (.int .i64))) (Prod.snd (wd1_g (t, Prod.snd (wd0_g (v, t) [])) []))])) (.bad 116) := by kernel_rfl
theorem wdc_val (v : Int) (t : Int) (hc : (okN v t) = true) : (.br (((wd0_cond (v, t) []) && ((Nat.beq (Prod.fst (wd0_g (v, t) [])) (0 : Nat)) && ((wd1_cond (t, Prod.snd (wd0_g (v, t) [])) []) && (Nat.beq (Prod.fst (wd1_g (t, Prod.snd (wd0_g (v, t) [])) [])) (0 : Nat)))))) (.ret (.ag [.d false false (.prod (.int .i64) (.prod (.int .i64) (.int .i64))) (Prod.snd (wd0_g (v, t) [])), .d false false (.prod (.int .i64) (.prod (.int .i64) (.int .i64))) (Prod.snd (wd1_g (t, Prod.snd (wd0_g (v, t) [])) []))])) (.bad 116) : Tr AV).val = some (.ag [.d false false (.prod (.int .i64) (.prod (.int .i64) (.int .i64))) (wdV v.toNat), .d false false (.prod (.int .i64) (.prod (.int .i64) (.int .i64))) (wdT t.toNat)]) := by
  unfold okN at hc
  simp only [Bool.and_eq_true, decide_eq_true_eq] at hc
  obtain ⟨⟨⟨v0, v1⟩, t0⟩, t1⟩ := hc
  obtain ⟨n, rfl⟩ : ∃ n : Nat, v = n := ⟨v.toNat, by omega⟩
  obtain ⟨k, rfl⟩ : ∃ k : Nat, t = k := ⟨t.toNat, by omega⟩
  obtain ⟨a1, a2⟩ := wd0_run (n := n) (t := (k : Int)) (by omega)
  obtain ⟨b1, b2⟩ := wd1_run (n := k) (V := wdV n) (by omega)
  have z0 : Nat.beq 0 0 = true := rfl
  show cond _ _ _ = _
  simp only [a1, a2, b1, b2, z0, Int.toNat_natCast, Bool.and_self, cond_true, Tr.val]
noncomputable def wdc_g : List AV → Option (Tr AV)
  | [.one (.v _ (.int .i64 v)), .one (.v _ (.int .i64 t))] => some (.br (okN v t) (.ret (.ag [.d false false (.prod (.int .i64) (.prod (.int .i64) (.int .i64))) (wdV v.toNat), .d false false (.prod (.int .i64) (.prod (.int .i64) (.int .i64))) (wdT t.toNat)])) (.bad 900))
  | _ => none
set_option maxHeartbeats 4000000 in
theorem wdc_ok : FunOK Try.prog 13 wdc_g := by
  refine fun_ok (by kernel_rfl) (mlA_S52_ok) (mlB_L52_ok) 9 (On := (opens [])) (fun args t h => ?_)
  unfold wdc_g at h
  split at h
  · rename_i _ v _ t
    simp only [Option.some.injEq] at h
    subst h
    refine ⟨[.one (.v false (.int .i64 v)), .one (.v false (.int .i64 t))], rfl, fun fr w us h => h, fun r hr => ?_⟩
    obtain ⟨hc, hr⟩ := br_bad hr
    simp only [Tr.val, Option.some.injEq] at hr
    subst hr
    rw [wdc_tree]
    exact wdc_val v t hc
  · cases h
noncomputable def mlB_S53 : Sums := addS 13 wdc_g mlA_S52
theorem mlB_S53_ok : SumOK Try.prog mlB_S53 := addS_ok (wdc_ok) (mlA_S52_ok)
theorem wdV_len (n : Nat) : (wdV n).length = n := tab_length n _
theorem wdT_len (n : Nat) : (wdT n).length = n := List.length_replicate
theorem vG (n : Nat) (h : n ≤ 4096) : vGood (wdV n) = true := by
  unfold vGood
  rw [List.all_eq_true]
  intro q hq
  unfold wdV tab at hq
  obtain ⟨i, hi, rfl⟩ := List.mem_map.1 hq
  have := List.mem_range.1 hi
  have a1 : (-65536 : Int) ≤ (i : Int) := by omega
  have a2 : (i : Int) ≤ 65536 := by omega
  unfold vOk
  simp [a1, a2]
theorem tG {n : Int} (h : 0 < n) (k : Nat) : tGood n (wdT k) = true := by
  unfold tGood
  rw [List.all_eq_true]
  intro q hq
  obtain ⟨_, rfl⟩ := List.mem_replicate.1 hq
  unfold tOk
  exact decide_eq_true ⟨by decide, h, by decide, h, by decide, h⟩
theorem chk_wd {n k : Nat} (h : 0 < n) : chk (wdV n) (wdT k) = if n ≤ 4096 ∧ k ≤ 4096 then 0 else 2 := by
  unfold chk
  rw [wdV_len, wdT_len]
  by_cases h1 : n ≤ 4096
  · by_cases h2 : k ≤ 4096
    · rw [decide_eq_true (show (n : Int) ≤ 4096 by omega), decide_eq_true (show (k : Int) ≤ 4096 by omega), vG n h1, tG (by omega) k, if_pos ⟨h1, h2⟩]; rfl
    · rw [decide_eq_false (show ¬ (k : Int) ≤ 4096 by omega), Bool.and_false, if_neg (fun e => h2 e.2)]; rfl
  · rw [decide_eq_false (show ¬ (n : Int) ≤ 4096 by omega), Bool.false_and, if_neg (fun e => h1 e.1)]; rfl
theorem jE_wd {n k : Nat} (h : 0 < n) (hn : n ≤ 4096) (hk : k ≤ 4096) : jE (wdV 2048) (wdT 2048) (wdV n) (wdT k) = if 2048 + n ≤ 4096 ∧ 2048 + k ≤ 4096 then 0 else 2 := by
  unfold jE
  rw [chk_wd (by omega), chk_wd h, if_pos (by omega), if_pos ⟨hn, hk⟩]
  unfold jFit
  rw [wdV_len, wdV_len, wdT_len, wdT_len]
  by_cases g : 2048 + n ≤ 4096 ∧ 2048 + k ≤ 4096
  · rw [decide_eq_true g, if_pos g]; rfl
  · rw [decide_eq_false g, if_neg g]; rfl
set_option maxRecDepth 100000 in
theorem law_MeshLimits_tree (v : Int) (t : Int) : evalF Try.prog mlB_S53 (opens []) mlB_L52 9 4 [.one (.v false (.int .i64 v)), .one (.v false (.int .i64 t))] = .br ((bif bif bif bif decide (v < (-3 : Int)) then true else decide (v > (3 : Int)) then true else decide (t < (-3 : Int)) then true else decide (t > (3 : Int)) then true else ((okN (IntKind.wrap IntKind.i64 ((4096 : Int) + v)) (IntKind.wrap IntKind.i64 ((4096 : Int) + t))) && ((true) && (okN (IntKind.wrap IntKind.i64 ((2048 : Int) + v)) (IntKind.wrap IntKind.i64 ((2048 : Int) + t))))))) (.ret (.one (.v false (.bool (bif bif bif bif decide (v < (-3 : Int)) then true else decide (v > (3 : Int)) then true else decide (t < (-3 : Int)) then true else decide (t > (3 : Int)) then true else bif bif decide (v > (0 : Int)) then true else decide (t > (0 : Int)) then bif bif chk (wdV (Int.toNat (IntKind.wrap IntKind.i64 ((4096 : Int) + v)))) (wdT (Int.toNat (IntKind.wrap IntKind.i64 ((4096 : Int) + t)))) == (2 : Int) then jE (wdV (Int.toNat (2048 : Int))) (wdT (Int.toNat (2048 : Int))) (wdV (Int.toNat (IntKind.wrap IntKind.i64 ((2048 : Int) + v)))) (wdT (Int.toNat (IntKind.wrap IntKind.i64 ((2048 : Int) + t)))) == (2 : Int) else false then true else false else bif bif chk (wdV (Int.toNat (IntKind.wrap IntKind.i64 ((4096 : Int) + v)))) (wdT (Int.toNat (IntKind.wrap IntKind.i64 ((4096 : Int) + t)))) == (0 : Int) then jE (wdV (Int.toNat (2048 : Int))) (wdT (Int.toNat (2048 : Int))) (wdV (Int.toNat (IntKind.wrap IntKind.i64 ((2048 : Int) + v)))) (wdT (Int.toNat (IntKind.wrap IntKind.i64 ((2048 : Int) + t)))) == (0 : Int) else false then true else false))))) (.bad 116) := by kernel_rfl
set_option maxHeartbeats 4000000 in
theorem law_MeshLimits_all (v : Int) (t : Int)  (l0 : -9223372036854775808 ≤ v) (g0 : v ≤ 9223372036854775807) (l1 : -9223372036854775808 ≤ t) (g1 : t ≤ 9223372036854775807) : Tr.all (fun r => ∃ kn, r = AV.one (.v kn (.bool true))) (.br ((bif bif bif bif decide (v < (-3 : Int)) then true else decide (v > (3 : Int)) then true else decide (t < (-3 : Int)) then true else decide (t > (3 : Int)) then true else ((okN (IntKind.wrap IntKind.i64 ((4096 : Int) + v)) (IntKind.wrap IntKind.i64 ((4096 : Int) + t))) && ((true) && (okN (IntKind.wrap IntKind.i64 ((2048 : Int) + v)) (IntKind.wrap IntKind.i64 ((2048 : Int) + t))))))) (.ret (.one (.v false (.bool (bif bif bif bif decide (v < (-3 : Int)) then true else decide (v > (3 : Int)) then true else decide (t < (-3 : Int)) then true else decide (t > (3 : Int)) then true else bif bif decide (v > (0 : Int)) then true else decide (t > (0 : Int)) then bif bif chk (wdV (Int.toNat (IntKind.wrap IntKind.i64 ((4096 : Int) + v)))) (wdT (Int.toNat (IntKind.wrap IntKind.i64 ((4096 : Int) + t)))) == (2 : Int) then jE (wdV (Int.toNat (2048 : Int))) (wdT (Int.toNat (2048 : Int))) (wdV (Int.toNat (IntKind.wrap IntKind.i64 ((2048 : Int) + v)))) (wdT (Int.toNat (IntKind.wrap IntKind.i64 ((2048 : Int) + t)))) == (2 : Int) else false then true else false else bif bif chk (wdV (Int.toNat (IntKind.wrap IntKind.i64 ((4096 : Int) + v)))) (wdT (Int.toNat (IntKind.wrap IntKind.i64 ((4096 : Int) + t)))) == (0 : Int) then jE (wdV (Int.toNat (2048 : Int))) (wdT (Int.toNat (2048 : Int))) (wdV (Int.toNat (IntKind.wrap IntKind.i64 ((2048 : Int) + v)))) (wdT (Int.toNat (IntKind.wrap IntKind.i64 ((2048 : Int) + t)))) == (0 : Int) else false then true else false))))) (.bad 116)) := by
  by_cases h1 : v < -3
  · simp only [decide_eq_true h1, cond_true]
    exact ⟨fun _ => ⟨_, rfl⟩, fun h => by cases h⟩
  by_cases h2 : v > 3
  · simp only [decide_eq_false h1, decide_eq_true h2, cond_true, cond_false]
    exact ⟨fun _ => ⟨_, rfl⟩, fun h => by cases h⟩
  by_cases h3 : t < -3
  · simp only [decide_eq_false h1, decide_eq_false h2, decide_eq_true h3, cond_true, cond_false]
    exact ⟨fun _ => ⟨_, rfl⟩, fun h => by cases h⟩
  by_cases h4 : t > 3
  · simp only [decide_eq_false h1, decide_eq_false h2, decide_eq_false h3, decide_eq_true h4, cond_true, cond_false]
    exact ⟨fun _ => ⟨_, rfl⟩, fun h => by cases h⟩
  have w1 : IntKind.wrap IntKind.i64 (4096 + v) = 4096 + v := wid (by omega) (by omega)
  have w2 : IntKind.wrap IntKind.i64 (4096 + t) = 4096 + t := wid (by omega) (by omega)
  have w3 : IntKind.wrap IntKind.i64 (2048 + v) = 2048 + v := wid (by omega) (by omega)
  have w4 : IntKind.wrap IntKind.i64 (2048 + t) = 2048 + t := wid (by omega) (by omega)
  have k1 : okN (4096 + v) (4096 + t) = true := by
    unfold okN; simp only [Bool.and_eq_true, decide_eq_true_eq]; omega
  have k2 : okN (2048 + v) (2048 + t) = true := by
    unfold okN; simp only [Bool.and_eq_true, decide_eq_true_eq]; omega
  have e0 : Int.toNat (2048 : Int) = 2048 := rfl
  have c1 := chk_wd (n := Int.toNat (4096 + v)) (k := Int.toNat (4096 + t)) (by omega)
  have c2 := jE_wd (n := Int.toNat (2048 + v)) (k := Int.toNat (2048 + t)) (by omega) (by omega) (by omega)
  simp only [decide_eq_false h1, decide_eq_false h2, decide_eq_false h3, decide_eq_false h4, w1, w2, w3, w4, k1, k2, e0, c1, c2, cond_true, cond_false, Bool.and_self]
  by_cases g1 : v > 0
  · rw [if_neg (by omega), if_neg (by omega)]
    simp only [decide_eq_true g1, cond_true, beq_self_eq_true]
    exact ⟨fun _ => ⟨_, rfl⟩, fun h => by cases h⟩
  by_cases g2 : t > 0
  · rw [if_neg (by omega), if_neg (by omega)]
    simp only [decide_eq_false g1, decide_eq_true g2, cond_true, cond_false, beq_self_eq_true]
    exact ⟨fun _ => ⟨_, rfl⟩, fun h => by cases h⟩
  · rw [if_pos (by omega), if_pos (by omega)]
    simp only [decide_eq_false g1, decide_eq_false g2, cond_true, cond_false, beq_self_eq_true]
    exact ⟨fun _ => ⟨_, rfl⟩, fun h => by cases h⟩
set_option maxHeartbeats 4000000 in
theorem law_MeshLimits (v : Int) (l0 : -9223372036854775808 ≤ v) (g0 : v ≤ 9223372036854775807) (t : Int) (l1 : -9223372036854775808 ≤ t) (g1 : t ≤ 9223372036854775807) (z_w : World)  : Calls Try.prog 4 #[.int .i64 v, .int .i64 t] z_w fun e w' => e = .returned (.bool true) ∧ Ext z_w w' := by
  refine law_of_tree (by kernel_rfl) (mlB_S53_ok) (mlB_L52_ok) (law_MeshLimits_tree v t) (law_MeshLimits_all v t  l0 g0 l1 g1) rfl z_w _ _ (fun _ h => h) ⟨_, _, rfl, rfl, ⟨_, _, rfl, rfl, rfl⟩⟩
end Go.Proofs.Ytbagcmeeiiohpaa
