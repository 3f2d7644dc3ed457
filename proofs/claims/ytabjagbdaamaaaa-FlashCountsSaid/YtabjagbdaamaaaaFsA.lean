/-
  Layer 51: validity, equality, sizes; copies of memories.
-/
import Derived.Test.YtabjagbdaamaaaaProg
import Derived.Test.YtabjagbdaamaaaaFvX
import Derived.Test.YtabjagbdaamaaaaFvZ
import Derived.Test.YtabjagbdaamaaaaAut
import Derived.Test.YtabjagbdaamaaaaRd
import Derived.Test.YtabjagbdaamaaaaPl
import Derived.Test.YtabjagbdaamaaaaShelf
import Derived.Test.YtabjagbdaamaaaaScn
namespace Go.Proofs.Ytabjagbdaamaaaa
open Go
abbrev ixv_U : Type := (Ty.list .str).den × Int
abbrev ixv_V : Type := Int × Int
noncomputable def ixv_St (u : ixv_U) (v : ixv_V) : Stt := ⟨[.one (.d false false .str u.1), .one (.fn 29 []), .one .junk, .one .junk, .one (.v false (.int .i64 v.1)), .one .junk, .one .junk, .one (.v false (.int .i64 u.2)), .one (.v false (.int .i64 v.2)), .one .junk, .one .junk, .one .junk, .one .junk, .one .junk, .one .junk, .one .junk, .one .junk, .one .junk, .one .junk], [], 1004⟩
def el_s (l : (Ty.list Ty.str).den) (i : Int) : ByteArray := elm Ty.str l i
noncomputable def ixv_step (u : ixv_U) (v : ixv_V) : Tr (ixv_V ⊕ (Nat × ixv_V)) :=
  match u, v with
  | (q0, q2), (q1, q3) => .br (decide (q3 < q2)) (.br (decide ((0 : Int) ≤ q3) && decide (q3 < (↑(List.length q0) : Int))) (.br ((↑(ByteArray.size (el_s q0 q3)) : Int) != (64 : Int)) (.ret (.inr (0, (q3, q3)))) (.ret (.inl (q1, IntKind.wrap IntKind.i64 (q3 + (1 : Int)))))) (.bad 29)) (.ret (.inr (1, (q1, q3))))
set_option maxRecDepth 100000 in
set_option maxHeartbeats 4000000 in
theorem ixv_step_eq : ∀ (u : ixv_U) (v : ixv_V), (evalC Try.prog (evalB Try.prog S0 (opens []) L0 7).1 (evalB Try.prog S0 (opens []) L0 7).2 (opens []) (L0 42) 100000 (0 :: [0, 1, 0, 1]) (loopOf (bodyOf Try.prog 42) [1, 0, 1, 0]) (ixv_St u v) []).bind (finF [2, 3, 5, 6, 9, 10, 11, 12, 13, 14, 15, 16, 17, 18] [] [] [] 1004) = (ixv_step u v).bind (outA (ixv_St u) [.ret, .exit 0]) := by
  rintro ⟨q0, q2⟩ ⟨q1, q3⟩
  kernel_rfl
noncomputable def ixv_rd (b : Bool) (o0 : Option AV) (o1 : Option AV) (o4 : Option AV) (o7 : Option AV) (o8 : Option AV) (own : Own) : Option (ixv_U × ixv_V) := zrT b <| zrO o0 fun za1 => zrA1 za1 fun zc2 => zrD .str zc2 fun q0 => zrO o1 fun za3 => zrA1 za3 fun zc4 => zrF 29 [] zc4 <| zrO o4 fun za5 => zrA1 za5 fun zc6 => zrI .i64 zc6 fun q1 => zrO o7 fun za7 => zrA1 za7 fun zc8 => zrI .i64 zc8 fun q2 => zrO o8 fun za9 => zrA1 za9 fun zc10 => zrI .i64 zc10 fun q3 => zrN own <| some ((q0, q2), (q1, q3))
noncomputable def ixv_can (st : Stt) : Stt := canA [2, 3, 5, 6, 9, 10, 11, 12, 13, 14, 15, 16, 17, 18] [] [] [] 1004 st
noncomputable def ixv_cok (st : Stt) : Bool := canAok [2, 3, 5, 6, 9, 10, 11, 12, 13, 14, 15, 16, 17, 18] [] [] [] 1004 st
noncomputable def ixv_read (st : Stt) : Option (ixv_U × ixv_V) := ixv_rd (ixv_cok st && (staysA [] [] st.own && juAll [2, 3, 5, 6, 9, 10, 11, 12, 13, 14, 15, 16, 17, 18] (ixv_can st).tm 19)) (ixv_can st).tm[0]? (ixv_can st).tm[1]? (ixv_can st).tm[4]? (ixv_can st).tm[7]? (ixv_can st).tm[8]? (ixv_can st).own
set_option maxRecDepth 100000 in
set_option maxHeartbeats 4000000 in
theorem ixv_rd_ok {b : Bool} {tm : List AV} {own : Own} {u : ixv_U} {v : ixv_V} (hj : b = true → juAll [2, 3, 5, 6, 9, 10, 11, 12, 13, 14, 15, 16, 17, 18] tm 19 = true) (h : ixv_rd b tm[0]? tm[1]? tm[4]? tm[7]? tm[8]? own = some (u, v)) : b = true ∧ tm = (ixv_St u v).tm ∧ own = (ixv_St u v).own := by
  unfold ixv_rd at h
  obtain ⟨rfl, h0⟩ := zrT_some h
  obtain ⟨za1, e0, h1⟩ := zrO_some h0
  obtain ⟨zc2, rfl, h2⟩ := zrA1_some h1
  obtain ⟨q0, rfl, h3⟩ := zrD_some h2
  obtain ⟨za3, e1, h4⟩ := zrO_some h3
  obtain ⟨zc4, rfl, h5⟩ := zrA1_some h4
  obtain ⟨rfl, h6⟩ := zrF_some h5
  obtain ⟨za5, e4, h7⟩ := zrO_some h6
  obtain ⟨zc6, rfl, h8⟩ := zrA1_some h7
  obtain ⟨q1, rfl, h9⟩ := zrI_some h8
  obtain ⟨za7, e7, h10⟩ := zrO_some h9
  obtain ⟨zc8, rfl, h11⟩ := zrA1_some h10
  obtain ⟨q2, rfl, h12⟩ := zrI_some h11
  obtain ⟨za9, e8, h13⟩ := zrO_some h12
  obtain ⟨zc10, rfl, h14⟩ := zrA1_some h13
  obtain ⟨q3, rfl, h15⟩ := zrI_some h14
  obtain ⟨rfl, h16⟩ := zrN_some h15
  have h := Option.some.inj h16
  have hu := congrArg Prod.fst h
  have hv := congrArg Prod.snd h
  dsimp only at hu hv
  subst hu
  subst hv
  exact ⟨rfl, (tm_fill (hj rfl) (Lv := [(0, .one (.d false false .str q0)), (1, .one (.fn 29 [])), (4, .one (.v false (.int .i64 q1))), (7, .one (.v false (.int .i64 q2))), (8, .one (.v false (.int .i64 q3)))]) (by kernel_rfl) ⟨e0, e1, e4, e7, e8, trivial⟩).trans (by kernel_rfl), rfl⟩
theorem ixv_read_ok (st : Stt) (u : ixv_U) (v : ixv_V) (h : ixv_read st = some (u, v)) : ixv_cok st = true ∧ staysA [] [] st.own = true ∧ ixv_can st = ixv_St u v := by
  obtain ⟨h1, h2, h3⟩ := ixv_rd_ok (fun hb => by rw [Bool.and_eq_true, Bool.and_eq_true] at hb; exact hb.2.2) h
  rw [Bool.and_eq_true, Bool.and_eq_true] at h1
  refine ⟨h1.1, h1.2.1, ?_⟩
  have e : ixv_can st = ⟨(ixv_can st).tm, (ixv_can st).own, 1004⟩ := by kernel_rfl
  rw [e, h2, h3]
  rfl
noncomputable def ixv_cond (u : ixv_U) (v : ixv_V) : Bool := runC (ixv_step u) v
noncomputable def ixv_g (u : ixv_U) (v : ixv_V) : Nat × ixv_V := runG (ixv_step u) v
theorem ixv_hg : ∀ (u : ixv_U) (v : ixv_V), ixv_cond u v = true → loopN (ixv_step u) ((fun u v => runF (ixv_step u) v) u v) v = some (ixv_g u v) := by
  exact fun u v h => run_hg h
noncomputable def ixv_m (st : Stt) : Option (Tr (Ex × Stt)) := sumM ixv_read ixv_cond ixv_St ixv_g [(0, .ret), (1, .exit 0)] st
noncomputable def fsA_L51 : FuncId → Loops := addL 42 [0, 1, 0, 1] ixv_m L0
set_option maxRecDepth 100000 in
set_option maxHeartbeats 4000000 in
theorem fsA_L51_ok : LoopsOK Try.prog fsA_L51 :=
  loop_sumF (body := (bodyOf Try.prog 42)) (c := (loopOf (bodyOf Try.prog 42) [1, 0, 1, 0])) (kinds := [.ret, .exit 0]) (allow := [(0, .ret), (1, .exit 0)]) (St := ixv_St) (step := ixv_step) (W := [2, 3, 5, 6, 9, 10, 11, 12, 13, 14, 15, 16, 17, 18]) (As := []) (ks := []) (dd := []) (nx := 1004) (n := 100000) (g := ixv_g) (cond := ixv_cond) (fuel := (fun u v => runF (ixv_step u) v)) (read := ixv_read) (by kernel_rfl) (S0_ok _) (L0_ok _) 7 ⟨Try.f42, by kernel_rfl, by kernel_rfl⟩ (by kernel_rfl) (by kernel_rfl) (by kernel_rfl) ixv_step_eq ixv_hg ixv_read_ok
abbrev vrv_U : Type := (Ty.list .str).den × Int × (Ty.list .str).den × Int × Bool × Int
abbrev vrv_V : Type := Bool × Int
noncomputable def vrv_St (u : vrv_U) (v : vrv_V) : Stt := ⟨[.one .junk, .one (.p 0 0), .one (.v false (.bool v.1)), .one .junk, .one .junk, .one .junk, .one (.d false false .str u.1), .one (.v false (.int .i64 u.2.1)), .one (.v false (.int .i64 v.2)), .one .junk, .one .junk, .one .junk, .one .junk, .one .junk, .one .junk, .one .junk, .one .junk, .one .junk, .one .junk, .one .junk, .one .junk, .one .junk, .one .junk, .one .junk, .one .junk, .one .junk, .one .junk, .one .junk, .one .junk, .one .junk, .one .junk, .one .junk, .one .junk, .one .junk, .one .junk, .one .junk, .one .junk, .one .junk, .one .junk, .one .junk, .one .junk, .one .junk, .one .junk, .one .junk, .one .junk, .one .junk], [(0, .cells [.d false false .str u.2.2.1, .v false (.int .i64 u.2.2.2.1), .v false (.bool u.2.2.2.2.1), .v false (.int .i64 u.2.2.2.2.2)])], 1006⟩
noncomputable def vrv_step (u : vrv_U) (v : vrv_V) : Tr (vrv_V ⊕ (Nat × vrv_V)) :=
  match u, v with
  | (q1, q2, _, _, _, _), (q0, q3) => .br (decide (q3 < q2)) (.br (decide ((0 : Int) ≤ q3) && decide (q3 < (↑(List.length q1) : Int))) (.br ((↑(ByteArray.size (el_s q1 q3)) : Int) != (64 : Int)) (.ret (.inr (0, (false, q3)))) (.ret (.inl (q0, IntKind.wrap IntKind.i64 (q3 + (1 : Int)))))) (.bad 29)) (.ret (.inr (1, (q0, q3))))
set_option maxRecDepth 100000 in
set_option maxHeartbeats 4000000 in
theorem vrv_step_eq : ∀ (u : vrv_U) (v : vrv_V), (evalC Try.prog (evalB Try.prog S0 (opens []) fsA_L51 7).1 (evalB Try.prog S0 (opens []) fsA_L51 7).2 (opens []) (fsA_L51 17) 100000 (0 :: [0, 1, 0, 1]) (loopOf (bodyOf Try.prog 17) [1, 0, 1, 0]) (vrv_St u v) []).bind (finF [0, 3, 4, 5, 9, 10, 11, 12, 13, 14, 15, 16, 17, 18, 19, 20, 21, 22, 23, 24, 25, 26, 27, 28, 29, 30, 31, 32, 33, 34, 35, 36, 37, 38, 39, 40, 41, 42, 43, 44, 45] [] [0] [] 1006) = (vrv_step u v).bind (outA (vrv_St u) [.ret, .exit 0]) := by
  rintro ⟨q1, q2, q4, q5, q6, q7⟩ ⟨q0, q3⟩
  kernel_rfl
noncomputable def vrv_rd (b : Bool) (o1 : Option AV) (o2 : Option AV) (o6 : Option AV) (o7 : Option AV) (o8 : Option AV) (own : Own) : Option (vrv_U × vrv_V) := zrT b <| zrO o1 fun za1 => zrA1 za1 fun zc2 => zrP 0 0 zc2 <| zrO o2 fun za3 => zrA1 za3 fun zc4 => zrB zc4 fun q0 => zrO o6 fun za5 => zrA1 za5 fun zc6 => zrD .str zc6 fun q1 => zrO o7 fun za7 => zrA1 za7 fun zc8 => zrI .i64 zc8 fun q2 => zrO o8 fun za9 => zrA1 za9 fun zc10 => zrI .i64 zc10 fun q3 => zrL own fun zq11 zw12 => zrKey 0 zq11 fun zk13 => zrC zk13 fun zl14 => zrL zl14 fun zc15 zr16 => zrD .str zc15 fun q4 => zrL zr16 fun zc17 zr18 => zrI .i64 zc17 fun q5 => zrL zr18 fun zc19 zr20 => zrB zc19 fun q6 => zrL zr20 fun zc21 zr22 => zrI .i64 zc21 fun q7 => zrN zr22 <| zrN zw12 <| some ((q1, q2, q4, q5, q6, q7), (q0, q3))
noncomputable def vrv_can (st : Stt) : Stt := canA [0, 3, 4, 5, 9, 10, 11, 12, 13, 14, 15, 16, 17, 18, 19, 20, 21, 22, 23, 24, 25, 26, 27, 28, 29, 30, 31, 32, 33, 34, 35, 36, 37, 38, 39, 40, 41, 42, 43, 44, 45] [] [0] [] 1006 st
noncomputable def vrv_cok (st : Stt) : Bool := canAok [0, 3, 4, 5, 9, 10, 11, 12, 13, 14, 15, 16, 17, 18, 19, 20, 21, 22, 23, 24, 25, 26, 27, 28, 29, 30, 31, 32, 33, 34, 35, 36, 37, 38, 39, 40, 41, 42, 43, 44, 45] [] [0] [] 1006 st
noncomputable def vrv_read (st : Stt) : Option (vrv_U × vrv_V) := vrv_rd (vrv_cok st && (staysA [] [0] st.own && juAll [0, 3, 4, 5, 9, 10, 11, 12, 13, 14, 15, 16, 17, 18, 19, 20, 21, 22, 23, 24, 25, 26, 27, 28, 29, 30, 31, 32, 33, 34, 35, 36, 37, 38, 39, 40, 41, 42, 43, 44, 45] (vrv_can st).tm 46)) (vrv_can st).tm[1]? (vrv_can st).tm[2]? (vrv_can st).tm[6]? (vrv_can st).tm[7]? (vrv_can st).tm[8]? (vrv_can st).own
set_option maxRecDepth 100000 in
set_option maxHeartbeats 4000000 in
theorem vrv_rd_ok {b : Bool} {tm : List AV} {own : Own} {u : vrv_U} {v : vrv_V} (hj : b = true → juAll [0, 3, 4, 5, 9, 10, 11, 12, 13, 14, 15, 16, 17, 18, 19, 20, 21, 22, 23, 24, 25, 26, 27, 28, 29, 30, 31, 32, 33, 34, 35, 36, 37, 38, 39, 40, 41, 42, 43, 44, 45] tm 46 = true) (h : vrv_rd b tm[1]? tm[2]? tm[6]? tm[7]? tm[8]? own = some (u, v)) : b = true ∧ tm = (vrv_St u v).tm ∧ own = (vrv_St u v).own := by
  unfold vrv_rd at h
  obtain ⟨rfl, h0⟩ := zrT_some h
  obtain ⟨za1, e1, h1⟩ := zrO_some h0
  obtain ⟨zc2, rfl, h2⟩ := zrA1_some h1
  obtain ⟨rfl, h3⟩ := zrP_some h2
  obtain ⟨za3, e2, h4⟩ := zrO_some h3
  obtain ⟨zc4, rfl, h5⟩ := zrA1_some h4
  obtain ⟨q0, rfl, h6⟩ := zrB_some h5
  obtain ⟨za5, e6, h7⟩ := zrO_some h6
  obtain ⟨zc6, rfl, h8⟩ := zrA1_some h7
  obtain ⟨q1, rfl, h9⟩ := zrD_some h8
  obtain ⟨za7, e7, h10⟩ := zrO_some h9
  obtain ⟨zc8, rfl, h11⟩ := zrA1_some h10
  obtain ⟨q2, rfl, h12⟩ := zrI_some h11
  obtain ⟨za9, e8, h13⟩ := zrO_some h12
  obtain ⟨zc10, rfl, h14⟩ := zrA1_some h13
  obtain ⟨q3, rfl, h15⟩ := zrI_some h14
  obtain ⟨zq11, zw12, rfl, h16⟩ := zrL_some h15
  obtain ⟨zk13, rfl, h17⟩ := zrKey_some h16
  obtain ⟨zl14, rfl, h18⟩ := zrC_some h17
  obtain ⟨zc15, zr16, rfl, h19⟩ := zrL_some h18
  obtain ⟨q4, rfl, h20⟩ := zrD_some h19
  obtain ⟨zc17, zr18, rfl, h21⟩ := zrL_some h20
  obtain ⟨q5, rfl, h22⟩ := zrI_some h21
  obtain ⟨zc19, zr20, rfl, h23⟩ := zrL_some h22
  obtain ⟨q6, rfl, h24⟩ := zrB_some h23
  obtain ⟨zc21, zr22, rfl, h25⟩ := zrL_some h24
  obtain ⟨q7, rfl, h26⟩ := zrI_some h25
  obtain ⟨rfl, h27⟩ := zrN_some h26
  obtain ⟨rfl, h28⟩ := zrN_some h27
  have h := Option.some.inj h28
  have hu := congrArg Prod.fst h
  have hv := congrArg Prod.snd h
  dsimp only at hu hv
  subst hu
  subst hv
  exact ⟨rfl, (tm_fill (hj rfl) (Lv := [(1, .one (.p 0 0)), (2, .one (.v false (.bool q0))), (6, .one (.d false false .str q1)), (7, .one (.v false (.int .i64 q2))), (8, .one (.v false (.int .i64 q3)))]) (by kernel_rfl) ⟨e1, e2, e6, e7, e8, trivial⟩).trans (by kernel_rfl), rfl⟩
theorem vrv_read_ok (st : Stt) (u : vrv_U) (v : vrv_V) (h : vrv_read st = some (u, v)) : vrv_cok st = true ∧ staysA [] [0] st.own = true ∧ vrv_can st = vrv_St u v := by
  obtain ⟨h1, h2, h3⟩ := vrv_rd_ok (fun hb => by rw [Bool.and_eq_true, Bool.and_eq_true] at hb; exact hb.2.2) h
  rw [Bool.and_eq_true, Bool.and_eq_true] at h1
  refine ⟨h1.1, h1.2.1, ?_⟩
  have e : vrv_can st = ⟨(vrv_can st).tm, (vrv_can st).own, 1006⟩ := by kernel_rfl
  rw [e, h2, h3]
  rfl
noncomputable def vrv_cond (u : vrv_U) (v : vrv_V) : Bool := runC (vrv_step u) v
noncomputable def vrv_g (u : vrv_U) (v : vrv_V) : Nat × vrv_V := runG (vrv_step u) v
theorem vrv_hg : ∀ (u : vrv_U) (v : vrv_V), vrv_cond u v = true → loopN (vrv_step u) ((fun u v => runF (vrv_step u) v) u v) v = some (vrv_g u v) := by
  exact fun u v h => run_hg h
noncomputable def vrv_m (st : Stt) : Option (Tr (Ex × Stt)) := sumM vrv_read vrv_cond vrv_St vrv_g [(0, .ret), (1, .exit 0)] st
noncomputable def fsA_L52 : FuncId → Loops := addL 17 [0, 1, 0, 1] vrv_m fsA_L51
set_option maxRecDepth 100000 in
set_option maxHeartbeats 4000000 in
theorem fsA_L52_ok : LoopsOK Try.prog fsA_L52 :=
  loop_sumF (body := (bodyOf Try.prog 17)) (c := (loopOf (bodyOf Try.prog 17) [1, 0, 1, 0])) (kinds := [.ret, .exit 0]) (allow := [(0, .ret), (1, .exit 0)]) (St := vrv_St) (step := vrv_step) (W := [0, 3, 4, 5, 9, 10, 11, 12, 13, 14, 15, 16, 17, 18, 19, 20, 21, 22, 23, 24, 25, 26, 27, 28, 29, 30, 31, 32, 33, 34, 35, 36, 37, 38, 39, 40, 41, 42, 43, 44, 45]) (As := []) (ks := [0]) (dd := []) (nx := 1006) (n := 100000) (g := vrv_g) (cond := vrv_cond) (fuel := (fun u v => runF (vrv_step u) v)) (read := vrv_read) (by kernel_rfl) (S0_ok _) (fsA_L51_ok) 7 ⟨Try.f17, by kernel_rfl, by kernel_rfl⟩ (by kernel_rfl) (by kernel_rfl) (by kernel_rfl) vrv_step_eq vrv_hg vrv_read_ok
abbrev sam_U : Type := Int × (Ty.list .str).den × Int × Bool × Int × (Ty.list .str).den × Int × Bool × Int
abbrev sam_V : Type := Bool × Int
noncomputable def sam_St (u : sam_U) (v : sam_V) : Stt := ⟨[.one .junk, .one .junk, .one (.p 0 0), .one (.p 1 0), .one (.v false (.bool v.1)), .one .junk, .one .junk, .one .junk, .one .junk, .one .junk, .one .junk, .one .junk, .one .junk, .one .junk, .one .junk, .one .junk, .one .junk, .one .junk, .one .junk, .one .junk, .one .junk, .one .junk, .one .junk, .one .junk, .one .junk, .one .junk, .one .junk, .one .junk, .one .junk, .one .junk, .one .junk, .one .junk, .one .junk, .one .junk, .one .junk, .one .junk, .one (.v false (.int .i64 u.1)), .one (.v false (.int .i64 v.2)), .one .junk, .one .junk, .one .junk, .one .junk, .one .junk, .one .junk, .one .junk, .one .junk, .one .junk, .one .junk, .one .junk, .one .junk, .one .junk, .one .junk], [(1, .cells [.d false false .str u.2.1, .v false (.int .i64 u.2.2.1), .v false (.bool u.2.2.2.1), .v false (.int .i64 u.2.2.2.2.1)]), (0, .cells [.d false false .str u.2.2.2.2.2.1, .v false (.int .i64 u.2.2.2.2.2.2.1), .v false (.bool u.2.2.2.2.2.2.2.1), .v false (.int .i64 u.2.2.2.2.2.2.2.2)])], 1035⟩
noncomputable def sam_step (u : sam_U) (v : sam_V) : Tr (sam_V ⊕ (Nat × sam_V)) :=
  match u, v with
  | (q1, q3, _, _, _, q7, _, _, _), (q0, q2) => .br (decide (q2 < q1)) (.br (decide ((0 : Int) ≤ q2) && decide (q2 < (↑(List.length q7) : Int))) (.br (decide ((0 : Int) ≤ q2) && decide (q2 < (↑(List.length q3) : Int))) (.br (!ByteArray.toList (el_s q7 q2) == ByteArray.toList (el_s q3 q2)) (.ret (.inr (0, (false, q2)))) (.ret (.inl (q0, IntKind.wrap IntKind.i64 (q2 + (1 : Int)))))) (.bad 29)) (.bad 29)) (.ret (.inr (1, (q0, q2))))
set_option maxRecDepth 100000 in
set_option maxHeartbeats 4000000 in
theorem sam_step_eq : ∀ (u : sam_U) (v : sam_V), (evalC Try.prog (evalB Try.prog S0 (opens []) fsA_L52 7).1 (evalB Try.prog S0 (opens []) fsA_L52 7).2 (opens []) (fsA_L52 11) 100000 (0 :: [0, 1, 0, 1, 1]) (loopOf (bodyOf Try.prog 11) [1, 1, 0, 1, 0]) (sam_St u v) []).bind (finF [0, 1, 5, 6, 7, 8, 9, 10, 11, 12, 13, 14, 15, 16, 17, 18, 19, 20, 21, 22, 23, 24, 25, 26, 27, 28, 29, 30, 31, 32, 33, 34, 35, 38, 39, 40, 41, 42, 43, 44, 45, 46, 47, 48, 49, 50, 51] [] [1, 0] [] 1035) = (sam_step u v).bind (outA (sam_St u) [.ret, .exit 0]) := by
  rintro ⟨q1, q3, q4, q5, q6, q7, q8, q9, q10⟩ ⟨q0, q2⟩
  kernel_rfl
noncomputable def sam_rd (b : Bool) (o2 : Option AV) (o3 : Option AV) (o4 : Option AV) (o36 : Option AV) (o37 : Option AV) (own : Own) : Option (sam_U × sam_V) := zrT b <| zrO o2 fun za1 => zrA1 za1 fun zc2 => zrP 0 0 zc2 <| zrO o3 fun za3 => zrA1 za3 fun zc4 => zrP 1 0 zc4 <| zrO o4 fun za5 => zrA1 za5 fun zc6 => zrB zc6 fun q0 => zrO o36 fun za7 => zrA1 za7 fun zc8 => zrI .i64 zc8 fun q1 => zrO o37 fun za9 => zrA1 za9 fun zc10 => zrI .i64 zc10 fun q2 => zrL own fun zq11 zw12 => zrKey 1 zq11 fun zk13 => zrC zk13 fun zl14 => zrL zl14 fun zc15 zr16 => zrD .str zc15 fun q3 => zrL zr16 fun zc17 zr18 => zrI .i64 zc17 fun q4 => zrL zr18 fun zc19 zr20 => zrB zc19 fun q5 => zrL zr20 fun zc21 zr22 => zrI .i64 zc21 fun q6 => zrN zr22 <| zrL zw12 fun zq23 zw24 => zrKey 0 zq23 fun zk25 => zrC zk25 fun zl26 => zrL zl26 fun zc27 zr28 => zrD .str zc27 fun q7 => zrL zr28 fun zc29 zr30 => zrI .i64 zc29 fun q8 => zrL zr30 fun zc31 zr32 => zrB zc31 fun q9 => zrL zr32 fun zc33 zr34 => zrI .i64 zc33 fun q10 => zrN zr34 <| zrN zw24 <| some ((q1, q3, q4, q5, q6, q7, q8, q9, q10), (q0, q2))
noncomputable def sam_can (st : Stt) : Stt := canA [0, 1, 5, 6, 7, 8, 9, 10, 11, 12, 13, 14, 15, 16, 17, 18, 19, 20, 21, 22, 23, 24, 25, 26, 27, 28, 29, 30, 31, 32, 33, 34, 35, 38, 39, 40, 41, 42, 43, 44, 45, 46, 47, 48, 49, 50, 51] [] [1, 0] [] 1035 st
noncomputable def sam_cok (st : Stt) : Bool := canAok [0, 1, 5, 6, 7, 8, 9, 10, 11, 12, 13, 14, 15, 16, 17, 18, 19, 20, 21, 22, 23, 24, 25, 26, 27, 28, 29, 30, 31, 32, 33, 34, 35, 38, 39, 40, 41, 42, 43, 44, 45, 46, 47, 48, 49, 50, 51] [] [1, 0] [] 1035 st
noncomputable def sam_read (st : Stt) : Option (sam_U × sam_V) := sam_rd (sam_cok st && (staysA [] [1, 0] st.own && juAll [0, 1, 5, 6, 7, 8, 9, 10, 11, 12, 13, 14, 15, 16, 17, 18, 19, 20, 21, 22, 23, 24, 25, 26, 27, 28, 29, 30, 31, 32, 33, 34, 35, 38, 39, 40, 41, 42, 43, 44, 45, 46, 47, 48, 49, 50, 51] (sam_can st).tm 52)) (sam_can st).tm[2]? (sam_can st).tm[3]? (sam_can st).tm[4]? (sam_can st).tm[36]? (sam_can st).tm[37]? (sam_can st).own
set_option maxRecDepth 100000 in
set_option maxHeartbeats 4000000 in
theorem sam_rd_ok {b : Bool} {tm : List AV} {own : Own} {u : sam_U} {v : sam_V} (hj : b = true → juAll [0, 1, 5, 6, 7, 8, 9, 10, 11, 12, 13, 14, 15, 16, 17, 18, 19, 20, 21, 22, 23, 24, 25, 26, 27, 28, 29, 30, 31, 32, 33, 34, 35, 38, 39, 40, 41, 42, 43, 44, 45, 46, 47, 48, 49, 50, 51] tm 52 = true) (h : sam_rd b tm[2]? tm[3]? tm[4]? tm[36]? tm[37]? own = some (u, v)) : b = true ∧ tm = (sam_St u v).tm ∧ own = (sam_St u v).own := by
  unfold sam_rd at h
  obtain ⟨rfl, h0⟩ := zrT_some h
  obtain ⟨za1, e2, h1⟩ := zrO_some h0
  obtain ⟨zc2, rfl, h2⟩ := zrA1_some h1
  obtain ⟨rfl, h3⟩ := zrP_some h2
  obtain ⟨za3, e3, h4⟩ := zrO_some h3
  obtain ⟨zc4, rfl, h5⟩ := zrA1_some h4
  obtain ⟨rfl, h6⟩ := zrP_some h5
  obtain ⟨za5, e4, h7⟩ := zrO_some h6
  obtain ⟨zc6, rfl, h8⟩ := zrA1_some h7
  obtain ⟨q0, rfl, h9⟩ := zrB_some h8
  obtain ⟨za7, e36, h10⟩ := zrO_some h9
  obtain ⟨zc8, rfl, h11⟩ := zrA1_some h10
  obtain ⟨q1, rfl, h12⟩ := zrI_some h11
  obtain ⟨za9, e37, h13⟩ := zrO_some h12
  obtain ⟨zc10, rfl, h14⟩ := zrA1_some h13
  obtain ⟨q2, rfl, h15⟩ := zrI_some h14
  obtain ⟨zq11, zw12, rfl, h16⟩ := zrL_some h15
  obtain ⟨zk13, rfl, h17⟩ := zrKey_some h16
  obtain ⟨zl14, rfl, h18⟩ := zrC_some h17
  obtain ⟨zc15, zr16, rfl, h19⟩ := zrL_some h18
  obtain ⟨q3, rfl, h20⟩ := zrD_some h19
  obtain ⟨zc17, zr18, rfl, h21⟩ := zrL_some h20
  obtain ⟨q4, rfl, h22⟩ := zrI_some h21
  obtain ⟨zc19, zr20, rfl, h23⟩ := zrL_some h22
  obtain ⟨q5, rfl, h24⟩ := zrB_some h23
  obtain ⟨zc21, zr22, rfl, h25⟩ := zrL_some h24
  obtain ⟨q6, rfl, h26⟩ := zrI_some h25
  obtain ⟨rfl, h27⟩ := zrN_some h26
  obtain ⟨zq23, zw24, rfl, h28⟩ := zrL_some h27
  obtain ⟨zk25, rfl, h29⟩ := zrKey_some h28
  obtain ⟨zl26, rfl, h30⟩ := zrC_some h29
  obtain ⟨zc27, zr28, rfl, h31⟩ := zrL_some h30
  obtain ⟨q7, rfl, h32⟩ := zrD_some h31
  obtain ⟨zc29, zr30, rfl, h33⟩ := zrL_some h32
  obtain ⟨q8, rfl, h34⟩ := zrI_some h33
  obtain ⟨zc31, zr32, rfl, h35⟩ := zrL_some h34
  obtain ⟨q9, rfl, h36⟩ := zrB_some h35
  obtain ⟨zc33, zr34, rfl, h37⟩ := zrL_some h36
  obtain ⟨q10, rfl, h38⟩ := zrI_some h37
  obtain ⟨rfl, h39⟩ := zrN_some h38
  obtain ⟨rfl, h40⟩ := zrN_some h39
  have h := Option.some.inj h40
  have hu := congrArg Prod.fst h
  have hv := congrArg Prod.snd h
  dsimp only at hu hv
  subst hu
  subst hv
  exact ⟨rfl, (tm_fill (hj rfl) (Lv := [(2, .one (.p 0 0)), (3, .one (.p 1 0)), (4, .one (.v false (.bool q0))), (36, .one (.v false (.int .i64 q1))), (37, .one (.v false (.int .i64 q2)))]) (by kernel_rfl) ⟨e2, e3, e4, e36, e37, trivial⟩).trans (by kernel_rfl), rfl⟩
theorem sam_read_ok (st : Stt) (u : sam_U) (v : sam_V) (h : sam_read st = some (u, v)) : sam_cok st = true ∧ staysA [] [1, 0] st.own = true ∧ sam_can st = sam_St u v := by
  obtain ⟨h1, h2, h3⟩ := sam_rd_ok (fun hb => by rw [Bool.and_eq_true, Bool.and_eq_true] at hb; exact hb.2.2) h
  rw [Bool.and_eq_true, Bool.and_eq_true] at h1
  refine ⟨h1.1, h1.2.1, ?_⟩
  have e : sam_can st = ⟨(sam_can st).tm, (sam_can st).own, 1035⟩ := by kernel_rfl
  rw [e, h2, h3]
  rfl
noncomputable def sam_cond (u : sam_U) (v : sam_V) : Bool := runC (sam_step u) v
noncomputable def sam_g (u : sam_U) (v : sam_V) : Nat × sam_V := runG (sam_step u) v
theorem sam_hg : ∀ (u : sam_U) (v : sam_V), sam_cond u v = true → loopN (sam_step u) ((fun u v => runF (sam_step u) v) u v) v = some (sam_g u v) := by
  exact fun u v h => run_hg h
noncomputable def sam_m (st : Stt) : Option (Tr (Ex × Stt)) := sumM sam_read sam_cond sam_St sam_g [(0, .ret), (1, .exit 0)] st
noncomputable def fsA_L53 : FuncId → Loops := addL 11 [0, 1, 0, 1, 1] sam_m fsA_L52
set_option maxRecDepth 100000 in
set_option maxHeartbeats 4000000 in
theorem fsA_L53_ok : LoopsOK Try.prog fsA_L53 :=
  loop_sumF (body := (bodyOf Try.prog 11)) (c := (loopOf (bodyOf Try.prog 11) [1, 1, 0, 1, 0])) (kinds := [.ret, .exit 0]) (allow := [(0, .ret), (1, .exit 0)]) (St := sam_St) (step := sam_step) (W := [0, 1, 5, 6, 7, 8, 9, 10, 11, 12, 13, 14, 15, 16, 17, 18, 19, 20, 21, 22, 23, 24, 25, 26, 27, 28, 29, 30, 31, 32, 33, 34, 35, 38, 39, 40, 41, 42, 43, 44, 45, 46, 47, 48, 49, 50, 51]) (As := []) (ks := [1, 0]) (dd := []) (nx := 1035) (n := 100000) (g := sam_g) (cond := sam_cond) (fuel := (fun u v => runF (sam_step u) v)) (read := sam_read) (by kernel_rfl) (S0_ok _) (fsA_L52_ok) 7 ⟨Try.f11, by kernel_rfl, by kernel_rfl⟩ (by kernel_rfl) (by kernel_rfl) (by kernel_rfl) sam_step_eq sam_hg sam_read_ok
abbrev hea_U : Type := (Ty.list .str).den × Int
abbrev hea_V : Type := Bool × Int
noncomputable def hea_St (u : hea_U) (v : hea_V) : Stt := ⟨[.one .junk, .one .junk, .one (.v false (.bool v.1)), .one .junk, .one .junk, .one .junk, .one .junk, .one .junk, .one .junk, .one .junk, .one .junk, .one .junk, .one .junk, .one .junk, .one .junk, .one .junk, .one .junk, .one .junk, .one (.d false false .str u.1), .one (.v false (.int .i64 u.2)), .one (.v false (.int .i64 v.2)), .one .junk, .one .junk, .one .junk, .one .junk, .one .junk, .one .junk, .one .junk], [(0, .dead)], 1018⟩
noncomputable def hea_step (u : hea_U) (v : hea_V) : Tr (hea_V ⊕ (Nat × hea_V)) :=
  match u, v with
  | (q1, q2), (q0, q3) => .br (decide (q3 < q2)) (.br (decide ((0 : Int) ≤ q3) && decide (q3 < (↑(List.length q1) : Int))) (.br (decide ((↑(ByteArray.size (el_s q1 q3)) : Int) > (1000 : Int))) (.ret (.inr (0, (true, q3)))) (.ret (.inl (q0, IntKind.wrap IntKind.i64 (q3 + (1 : Int)))))) (.bad 29)) (.ret (.inr (1, (q0, q3))))
set_option maxRecDepth 100000 in
set_option maxHeartbeats 4000000 in
theorem hea_step_eq : ∀ (u : hea_U) (v : hea_V), (evalC Try.prog (evalB Try.prog S0 (opens []) fsA_L53 7).1 (evalB Try.prog S0 (opens []) fsA_L53 7).2 (opens []) (fsA_L53 14) 100000 (0 :: [0, 1, 0, 1, 1]) (loopOf (bodyOf Try.prog 14) [1, 1, 0, 1, 0]) (hea_St u v) []).bind (finF [0, 1, 3, 4, 5, 6, 7, 8, 9, 10, 11, 12, 13, 14, 15, 16, 17, 21, 22, 23, 24, 25, 26, 27] [] [0] [0] 1018) = (hea_step u v).bind (outA (hea_St u) [.ret, .exit 0]) := by
  rintro ⟨q1, q2⟩ ⟨q0, q3⟩
  kernel_rfl
noncomputable def hea_rd (b : Bool) (o2 : Option AV) (o18 : Option AV) (o19 : Option AV) (o20 : Option AV) (own : Own) : Option (hea_U × hea_V) := zrT b <| zrO o2 fun za1 => zrA1 za1 fun zc2 => zrB zc2 fun q0 => zrO o18 fun za3 => zrA1 za3 fun zc4 => zrD .str zc4 fun q1 => zrO o19 fun za5 => zrA1 za5 fun zc6 => zrI .i64 zc6 fun q2 => zrO o20 fun za7 => zrA1 za7 fun zc8 => zrI .i64 zc8 fun q3 => zrL own fun zq9 zw10 => zrKey 0 zq9 fun zk11 => zrX zk11 <| zrN zw10 <| some ((q1, q2), (q0, q3))
noncomputable def hea_can (st : Stt) : Stt := canA [0, 1, 3, 4, 5, 6, 7, 8, 9, 10, 11, 12, 13, 14, 15, 16, 17, 21, 22, 23, 24, 25, 26, 27] [] [0] [0] 1018 st
noncomputable def hea_cok (st : Stt) : Bool := canAok [0, 1, 3, 4, 5, 6, 7, 8, 9, 10, 11, 12, 13, 14, 15, 16, 17, 21, 22, 23, 24, 25, 26, 27] [] [0] [0] 1018 st
noncomputable def hea_read (st : Stt) : Option (hea_U × hea_V) := hea_rd (hea_cok st && (staysA [] [0] st.own && juAll [0, 1, 3, 4, 5, 6, 7, 8, 9, 10, 11, 12, 13, 14, 15, 16, 17, 21, 22, 23, 24, 25, 26, 27] (hea_can st).tm 28)) (hea_can st).tm[2]? (hea_can st).tm[18]? (hea_can st).tm[19]? (hea_can st).tm[20]? (hea_can st).own
set_option maxRecDepth 100000 in
set_option maxHeartbeats 4000000 in
theorem hea_rd_ok {b : Bool} {tm : List AV} {own : Own} {u : hea_U} {v : hea_V} (hj : b = true → juAll [0, 1, 3, 4, 5, 6, 7, 8, 9, 10, 11, 12, 13, 14, 15, 16, 17, 21, 22, 23, 24, 25, 26, 27] tm 28 = true) (h : hea_rd b tm[2]? tm[18]? tm[19]? tm[20]? own = some (u, v)) : b = true ∧ tm = (hea_St u v).tm ∧ own = (hea_St u v).own := by
  unfold hea_rd at h
  obtain ⟨rfl, h0⟩ := zrT_some h
  obtain ⟨za1, e2, h1⟩ := zrO_some h0
  obtain ⟨zc2, rfl, h2⟩ := zrA1_some h1
  obtain ⟨q0, rfl, h3⟩ := zrB_some h2
  obtain ⟨za3, e18, h4⟩ := zrO_some h3
  obtain ⟨zc4, rfl, h5⟩ := zrA1_some h4
  obtain ⟨q1, rfl, h6⟩ := zrD_some h5
  obtain ⟨za5, e19, h7⟩ := zrO_some h6
  obtain ⟨zc6, rfl, h8⟩ := zrA1_some h7
  obtain ⟨q2, rfl, h9⟩ := zrI_some h8
  obtain ⟨za7, e20, h10⟩ := zrO_some h9
  obtain ⟨zc8, rfl, h11⟩ := zrA1_some h10
  obtain ⟨q3, rfl, h12⟩ := zrI_some h11
  obtain ⟨zq9, zw10, rfl, h13⟩ := zrL_some h12
  obtain ⟨zk11, rfl, h14⟩ := zrKey_some h13
  obtain ⟨rfl, h15⟩ := zrX_some h14
  obtain ⟨rfl, h16⟩ := zrN_some h15
  have h := Option.some.inj h16
  have hu := congrArg Prod.fst h
  have hv := congrArg Prod.snd h
  dsimp only at hu hv
  subst hu
  subst hv
  exact ⟨rfl, (tm_fill (hj rfl) (Lv := [(2, .one (.v false (.bool q0))), (18, .one (.d false false .str q1)), (19, .one (.v false (.int .i64 q2))), (20, .one (.v false (.int .i64 q3)))]) (by kernel_rfl) ⟨e2, e18, e19, e20, trivial⟩).trans (by kernel_rfl), rfl⟩
theorem hea_read_ok (st : Stt) (u : hea_U) (v : hea_V) (h : hea_read st = some (u, v)) : hea_cok st = true ∧ staysA [] [0] st.own = true ∧ hea_can st = hea_St u v := by
  obtain ⟨h1, h2, h3⟩ := hea_rd_ok (fun hb => by rw [Bool.and_eq_true, Bool.and_eq_true] at hb; exact hb.2.2) h
  rw [Bool.and_eq_true, Bool.and_eq_true] at h1
  refine ⟨h1.1, h1.2.1, ?_⟩
  have e : hea_can st = ⟨(hea_can st).tm, (hea_can st).own, 1018⟩ := by kernel_rfl
  rw [e, h2, h3]
  rfl
noncomputable def hea_cond (u : hea_U) (v : hea_V) : Bool := runC (hea_step u) v
noncomputable def hea_g (u : hea_U) (v : hea_V) : Nat × hea_V := runG (hea_step u) v
theorem hea_hg : ∀ (u : hea_U) (v : hea_V), hea_cond u v = true → loopN (hea_step u) ((fun u v => runF (hea_step u) v) u v) v = some (hea_g u v) := by
  exact fun u v h => run_hg h
noncomputable def hea_m (st : Stt) : Option (Tr (Ex × Stt)) := sumM hea_read hea_cond hea_St hea_g [(0, .ret), (1, .exit 0)] st
noncomputable def fsA_L54 : FuncId → Loops := addL 14 [0, 1, 0, 1, 1] hea_m fsA_L53
set_option maxRecDepth 100000 in
set_option maxHeartbeats 4000000 in
theorem fsA_L54_ok : LoopsOK Try.prog fsA_L54 :=
  loop_sumF (body := (bodyOf Try.prog 14)) (c := (loopOf (bodyOf Try.prog 14) [1, 1, 0, 1, 0])) (kinds := [.ret, .exit 0]) (allow := [(0, .ret), (1, .exit 0)]) (St := hea_St) (step := hea_step) (W := [0, 1, 3, 4, 5, 6, 7, 8, 9, 10, 11, 12, 13, 14, 15, 16, 17, 21, 22, 23, 24, 25, 26, 27]) (As := []) (ks := [0]) (dd := [0]) (nx := 1018) (n := 100000) (g := hea_g) (cond := hea_cond) (fuel := (fun u v => runF (hea_step u) v)) (read := hea_read) (by kernel_rfl) (S0_ok _) (fsA_L53_ok) 7 ⟨Try.f14, by kernel_rfl, by kernel_rfl⟩ (by kernel_rfl) (by kernel_rfl) (by kernel_rfl) hea_step_eq hea_hg hea_read_ok
abbrev fil_U : Type := Int × ByteArray × Int
abbrev fil_V : Type := Int × (Ty.list (.int .u8)).den
noncomputable def fil_St (u : fil_U) (v : fil_V) : Stt := ⟨[.one (.v false (.int .u8 u.1)), .one .junk, .one (.v false (.string u.2.1)), .one (.s false 1 0 (none)), .one .junk, .one .junk, .one .junk, .one (.v false (.int .i64 u.2.2)), .one (.v false (.int .i64 v.1)), .one .junk, .one .junk, .one .junk, .one .junk, .one .junk, .one .junk, .one .junk, .one .junk, .one .junk], [(1, .row true false false 5 (.int .u8) v.2)], 1006⟩
noncomputable def fil_step (u : fil_U) (v : fil_V) : Tr (fil_V ⊕ (Nat × fil_V)) :=
  match u, v with
  | (q0, _, q2), (q3, q4) => .br (decide (q3 < q2)) (.br (decide ((0 : Int) ≤ q3) && decide (q3 < (↑(List.length q4) : Int))) (.br (decide (Int.toNat q3 < List.length q4)) (.ret (.inl (IntKind.wrap IntKind.i64 (q3 + (1 : Int)), List.set q4 (Int.toNat q3) q0))) (.bad 19)) (.bad 31)) (.ret (.inr (0, (q3, q4))))
set_option maxRecDepth 100000 in
set_option maxHeartbeats 4000000 in
theorem fil_step_eq : ∀ (u : fil_U) (v : fil_V), (evalC Try.prog (evalB Try.prog S0 (opens []) fsA_L54 7).1 (evalB Try.prog S0 (opens []) fsA_L54 7).2 (opens []) (fsA_L54 24) 100000 (0 :: [0, 1, 0, 1, 1]) (loopOf (bodyOf Try.prog 24) [1, 1, 0, 1, 0]) (fil_St u v) []).bind (finF [1, 4, 5, 6, 9, 10, 11, 12, 13, 14, 15, 16, 17] [] [1] [] 1006) = (fil_step u v).bind (outA (fil_St u) [.exit 0]) := by
  rintro ⟨q0, q1, q2⟩ ⟨q3, q4⟩
  kernel_rfl
noncomputable def fil_rd (b : Bool) (o0 : Option AV) (o2 : Option AV) (o3 : Option AV) (o7 : Option AV) (o8 : Option AV) (own : Own) : Option (fil_U × fil_V) := zrT b <| zrO o0 fun za1 => zrA1 za1 fun zc2 => zrI .u8 zc2 fun q0 => zrO o2 fun za3 => zrA1 za3 fun zc4 => zrS zc4 fun q1 => zrO o3 fun za5 => zrA1 za5 fun zc6 => zrSl 1 0 (none) zc6 <| zrO o7 fun za7 => zrA1 za7 fun zc8 => zrI .i64 zc8 fun q2 => zrO o8 fun za9 => zrA1 za9 fun zc10 => zrI .i64 zc10 fun q3 => zrL own fun zq11 zw12 => zrKey 1 zq11 fun zk13 => zrR true 5 (.int .u8) zk13 fun q4 => zrN zw12 <| some ((q0, q1, q2), (q3, q4))
noncomputable def fil_can (st : Stt) : Stt := canA [1, 4, 5, 6, 9, 10, 11, 12, 13, 14, 15, 16, 17] [] [1] [] 1006 st
noncomputable def fil_cok (st : Stt) : Bool := canAok [1, 4, 5, 6, 9, 10, 11, 12, 13, 14, 15, 16, 17] [] [1] [] 1006 st
noncomputable def fil_read (st : Stt) : Option (fil_U × fil_V) := fil_rd (fil_cok st && (staysA [] [1] st.own && juAll [1, 4, 5, 6, 9, 10, 11, 12, 13, 14, 15, 16, 17] (fil_can st).tm 18)) (fil_can st).tm[0]? (fil_can st).tm[2]? (fil_can st).tm[3]? (fil_can st).tm[7]? (fil_can st).tm[8]? (fil_can st).own
set_option maxRecDepth 100000 in
set_option maxHeartbeats 4000000 in
theorem fil_rd_ok {b : Bool} {tm : List AV} {own : Own} {u : fil_U} {v : fil_V} (hj : b = true → juAll [1, 4, 5, 6, 9, 10, 11, 12, 13, 14, 15, 16, 17] tm 18 = true) (h : fil_rd b tm[0]? tm[2]? tm[3]? tm[7]? tm[8]? own = some (u, v)) : b = true ∧ tm = (fil_St u v).tm ∧ own = (fil_St u v).own := by
  unfold fil_rd at h
  obtain ⟨rfl, h0⟩ := zrT_some h
  obtain ⟨za1, e0, h1⟩ := zrO_some h0
  obtain ⟨zc2, rfl, h2⟩ := zrA1_some h1
  obtain ⟨q0, rfl, h3⟩ := zrI_some h2
  obtain ⟨za3, e2, h4⟩ := zrO_some h3
  obtain ⟨zc4, rfl, h5⟩ := zrA1_some h4
  obtain ⟨q1, rfl, h6⟩ := zrS_some h5
  obtain ⟨za5, e3, h7⟩ := zrO_some h6
  obtain ⟨zc6, rfl, h8⟩ := zrA1_some h7
  obtain ⟨rfl, h9⟩ := zrSl_some h8
  obtain ⟨za7, e7, h10⟩ := zrO_some h9
  obtain ⟨zc8, rfl, h11⟩ := zrA1_some h10
  obtain ⟨q2, rfl, h12⟩ := zrI_some h11
  obtain ⟨za9, e8, h13⟩ := zrO_some h12
  obtain ⟨zc10, rfl, h14⟩ := zrA1_some h13
  obtain ⟨q3, rfl, h15⟩ := zrI_some h14
  obtain ⟨zq11, zw12, rfl, h16⟩ := zrL_some h15
  obtain ⟨zk13, rfl, h17⟩ := zrKey_some h16
  obtain ⟨q4, rfl, h18⟩ := zrR_some h17
  obtain ⟨rfl, h19⟩ := zrN_some h18
  have h := Option.some.inj h19
  have hu := congrArg Prod.fst h
  have hv := congrArg Prod.snd h
  dsimp only at hu hv
  subst hu
  subst hv
  exact ⟨rfl, (tm_fill (hj rfl) (Lv := [(0, .one (.v false (.int .u8 q0))), (2, .one (.v false (.string q1))), (3, .one (.s false 1 0 (none))), (7, .one (.v false (.int .i64 q2))), (8, .one (.v false (.int .i64 q3)))]) (by kernel_rfl) ⟨e0, e2, e3, e7, e8, trivial⟩).trans (by kernel_rfl), rfl⟩
theorem fil_read_ok (st : Stt) (u : fil_U) (v : fil_V) (h : fil_read st = some (u, v)) : fil_cok st = true ∧ staysA [] [1] st.own = true ∧ fil_can st = fil_St u v := by
  obtain ⟨h1, h2, h3⟩ := fil_rd_ok (fun hb => by rw [Bool.and_eq_true, Bool.and_eq_true] at hb; exact hb.2.2) h
  rw [Bool.and_eq_true, Bool.and_eq_true] at h1
  refine ⟨h1.1, h1.2.1, ?_⟩
  have e : fil_can st = ⟨(fil_can st).tm, (fil_can st).own, 1006⟩ := by kernel_rfl
  rw [e, h2, h3]
  rfl
noncomputable def fil_cond (u : fil_U) (v : fil_V) : Bool := runC (fil_step u) v
noncomputable def fil_g (u : fil_U) (v : fil_V) : Nat × fil_V := runG (fil_step u) v
theorem fil_hg : ∀ (u : fil_U) (v : fil_V), fil_cond u v = true → loopN (fil_step u) ((fun u v => runF (fil_step u) v) u v) v = some (fil_g u v) := by
  exact fun u v h => run_hg h
noncomputable def fil_m (st : Stt) : Option (Tr (Ex × Stt)) := sumM fil_read fil_cond fil_St fil_g [(0, .exit 0)] st
noncomputable def fsA_L55 : FuncId → Loops := addL 24 [0, 1, 0, 1, 1] fil_m fsA_L54
set_option maxRecDepth 100000 in
set_option maxHeartbeats 4000000 in
theorem fsA_L55_ok : LoopsOK Try.prog fsA_L55 :=
  loop_sumF (body := (bodyOf Try.prog 24)) (c := (loopOf (bodyOf Try.prog 24) [1, 1, 0, 1, 0])) (kinds := [.exit 0]) (allow := [(0, .exit 0)]) (St := fil_St) (step := fil_step) (W := [1, 4, 5, 6, 9, 10, 11, 12, 13, 14, 15, 16, 17]) (As := []) (ks := [1]) (dd := []) (nx := 1006) (n := 100000) (g := fil_g) (cond := fil_cond) (fuel := (fun u v => runF (fil_step u) v)) (read := fil_read) (by kernel_rfl) (S0_ok _) (fsA_L54_ok) 7 ⟨Try.f24, by kernel_rfl, by kernel_rfl⟩ (by kernel_rfl) (by kernel_rfl) (by kernel_rfl) fil_step_eq fil_hg fil_read_ok
def zpS : ByteArray := ofInts (List.replicate 64 0)
def p64 (p : ByteArray) : Bool := decide ((p.size : Int) = 64)
def fvl (P : List ByteArray) (fu ke : Int) : Bool := P.all p64 && decide (2 ≤ P.length ∧ P.length ≤ 256 ∧ 0 ≤ fu ∧ fu ≤ 1048576 ∧ 0 ≤ ke ∧ ke ≤ 64)
noncomputable def fsm (P : List ByteArray) (fu : Int) (de : Bool) (ke : Int) (Q : List ByteArray) (gu : Int) (ee : Bool) (le : Int) : Bool := @decide (P = Q ∧ fu = gu ∧ de = ee ∧ ke = le) (Classical.propDecidable _)
def hvy (P : List ByteArray) (D : ByteArray) : Bool := decide (259 < P.length) || decide (1000 < D.size) || !P.all (fun p => decide (p.size ≤ 1000))
def fld (c : Int) : ByteArray := ofInts (List.replicate 64 c)
theorem ne64 (p : ByteArray) : ((p.size : Int) != (64 : Int)) = !p64 p := by
  unfold p64
  rw [Bool.eq_iff_iff]; simp
theorem strEq (a b : ByteArray) : (ByteArray.toList a == ByteArray.toList b) = decide (a = b) := by
  rw [Bool.eq_iff_iff, beq_iff_eq, decide_eq_true_eq, Go.ByteArray.toList_eq, Go.ByteArray.toList_eq]
  exact ⟨fun h => by cases a; cases b; simp only [ByteArray.mk.injEq]; exact Array.ext' h, fun h => by rw [h]⟩
theorem el_s_lt {l : List ByteArray} {i : Nat} (h : i < l.length) : el_s l (i : Int) = l[i] := elm_lt (t := .str) h
theorem ixv_run {P : List ByteArray} (hn : (P.length : Int) ≤ 9223372036854775806) : ixv_cond (P, (P.length : Int)) (0, 0) = true ∧ ((P.all p64 = true ∧ ixv_g (P, (P.length : Int)) (0, 0) = (1, (0, (P.length : Int)))) ∨ (P.all p64 = false ∧ ∃ j : Nat, ixv_g (P, (P.length : Int)) (0, 0) = (0, ((j : Int), (j : Int))))) := by
  obtain ⟨h1, h2⟩ := run_all (step := ixv_step (P, (P.length : Int))) (St := fun i => (0, (i : Int))) (Lv := fun i => (0, ((i : Int), (i : Int)))) (t := (1, (0, (P.length : Int)))) (l := P) (p := p64) (fun i hi => by
    simp only [ixv_step, Tr.val, lt_t hi, nn_t, el_s_lt hi, ne64, wi1 hi hn, Bool.and_self, cond_true]
    cases p64 P[i] <;> rfl) (by simp only [ixv_step, Tr.val, Int.lt_irrefl, decide_false, cond_false])
  refine ⟨h1, ?_⟩
  rcases h2 with h | ⟨h3, j, _, _, _, h4⟩
  · exact .inl h
  · exact .inr ⟨h3, j, h4⟩
theorem vrv_run {P : List ByteArray} {fu ke : Int} {de : Bool} (hn : (P.length : Int) ≤ 9223372036854775806) : vrv_cond (P, (P.length : Int), P, fu, de, ke) (false, 0) = true ∧ ((P.all p64 = true ∧ vrv_g (P, (P.length : Int), P, fu, de, ke) (false, 0) = (1, (false, (P.length : Int)))) ∨ (P.all p64 = false ∧ ∃ j : Nat, vrv_g (P, (P.length : Int), P, fu, de, ke) (false, 0) = (0, (false, (j : Int))))) := by
  obtain ⟨h1, h2⟩ := run_all (step := vrv_step (P, (P.length : Int), P, fu, de, ke)) (St := fun i => (false, (i : Int))) (Lv := fun i => (0, (false, (i : Int)))) (t := (1, (false, (P.length : Int)))) (l := P) (p := p64) (fun i hi => by
    simp only [vrv_step, Tr.val, lt_t hi, nn_t, el_s_lt hi, ne64, wi1 hi hn, Bool.and_self, cond_true]
    cases p64 P[i] <;> rfl) (by simp only [vrv_step, Tr.val, Int.lt_irrefl, decide_false, cond_false])
  refine ⟨h1, ?_⟩
  rcases h2 with h | ⟨h3, j, _, _, _, h4⟩
  · exact .inl h
  · exact .inr ⟨h3, j, h4⟩
theorem hea_run {P : List ByteArray} (hn : (P.length : Int) ≤ 9223372036854775806) : hea_cond (P, (P.length : Int)) (false, 0) = true ∧ ((P.all (fun p => decide (p.size ≤ 1000)) = true ∧ hea_g (P, (P.length : Int)) (false, 0) = (1, (false, (P.length : Int)))) ∨ (P.all (fun p => decide (p.size ≤ 1000)) = false ∧ ∃ j : Nat, hea_g (P, (P.length : Int)) (false, 0) = (0, (true, (j : Int))))) := by
  obtain ⟨h1, h2⟩ := run_all (step := hea_step (P, (P.length : Int))) (St := fun i => (false, (i : Int))) (Lv := fun i => (0, (true, (i : Int)))) (t := (1, (false, (P.length : Int)))) (l := P) (p := fun p => decide (p.size ≤ 1000)) (fun i hi => by
    simp only [hea_step, Tr.val, lt_t hi, nn_t, el_s_lt hi, wi1 hi hn, Bool.and_self, cond_true]
    by_cases h : P[i].size ≤ 1000
    · rw [decide_eq_true h, decide_eq_false (show ¬ ((P[i].size : Int) > 1000) by omega)]; rfl
    · rw [decide_eq_false h, decide_eq_true (show ((P[i].size : Int) > 1000) by omega)]; rfl) (by simp only [hea_step, Tr.val, Int.lt_irrefl, decide_false, cond_false])
  refine ⟨h1, ?_⟩
  rcases h2 with h | ⟨h3, j, _, _, _, h4⟩
  · exact .inl h
  · exact .inr ⟨h3, j, h4⟩
theorem sam_run {P Q : List ByteArray} {fu ke gu le : Int} {de ee : Bool} (hn : (P.length : Int) ≤ 9223372036854775806) (hl : P.length = Q.length) : sam_cond ((P.length : Int), Q, gu, ee, le, P, fu, de, ke) (false, 0) = true ∧ ((P = Q ∧ sam_g ((P.length : Int), Q, gu, ee, le, P, fu, de, ke) (false, 0) = (1, (false, (P.length : Int)))) ∨ (P ≠ Q ∧ ∃ j : Nat, sam_g ((P.length : Int), Q, gu, ee, le, P, fu, de, ke) (false, 0) = (0, (false, (j : Int))))) := by
  obtain ⟨h1, h2⟩ := run_scan (step := sam_step ((P.length : Int), Q, gu, ee, le, P, fu, de, ke)) (St := fun i => (false, (i : Int))) (Lv := fun i => (0, (false, (i : Int)))) (t := (1, (false, (P.length : Int)))) (n := P.length) (p := fun i => decide (el_s P i = el_s Q i)) (fun i hi => by
    have hi2 : i < Q.length := by omega
    simp only [sam_step, Tr.val, lt_t hi, lt_t hi2, nn_t, wi1 hi hn, strEq, Bool.and_self, cond_true]
    cases decide (el_s P (i : Int) = el_s Q (i : Int)) <;> rfl) (by simp only [sam_step, Tr.val, Int.lt_irrefl, decide_false, cond_false])
  refine ⟨h1, ?_⟩
  rcases h2 with ⟨h, h3⟩ | ⟨j, hj, hp, _, h4⟩
  · refine .inl ⟨list_eq_of hl fun i a b => ?_, h3⟩
    have := of_decide_eq_true (h i a)
    rwa [el_s_lt a, el_s_lt b] at this
  · refine .inr ⟨fun e => ?_, j, h4⟩
    subst e
    simp at hp
theorem set_rep (c : Int) : ∀ (n j : Nat), j < n → (List.replicate j c ++ List.replicate (n - j) (0 : Int)).set j c = List.replicate (j + 1) c ++ List.replicate (n - (j + 1)) 0 := fun n j h => by
  refine List.ext_getElem? fun i => ?_
  rw [List.getElem?_set]
  simp only [List.length_append, List.length_replicate, List.getElem?_append, List.getElem?_replicate]
  by_cases h1 : j = i
  · subst h1
    simp
    omega
  · rw [if_neg h1]
    by_cases h2 : i < j
    · simp [h2, show i < j + 1 by omega]
    · simp [h2, show ¬ i < j + 1 by omega]
      by_cases h3 : i - j < n - j
      · simp [h3, show i - (j + 1) < n - (j + 1) by omega]
      · simp [h3, show ¬ i - (j + 1) < n - (j + 1) by omega]
theorem fil_run (c : Int) (s : ByteArray) : fil_cond (c, s, (64 : Int)) (0, List.replicate 64 0) = true ∧ fil_g (c, s, (64 : Int)) (0, List.replicate 64 0) = (0, (64, List.replicate 64 c)) := by
  have R := run_steps (step := fil_step (c, s, (64 : Int))) (St := fun j => ((j : Int), List.replicate j c ++ List.replicate (64 - j) (0 : Int))) (n := 64) (t := (0, (64, List.replicate 64 c))) (by
    simp only [fil_step, Tr.val]
    rfl) 64 0 (by rfl) (fun j _ hj => by
    have hlen : (List.replicate j c ++ List.replicate (64 - j) (0 : Int)).length = 64 := by simp; omega
    have c1 : decide ((j : Int) < (64 : Int)) = true := decide_eq_true (by omega)
    have c2 : decide ((j : Int) < ((List.replicate j c ++ List.replicate (64 - j) (0 : Int)).length : Int)) = true := decide_eq_true (by rw [hlen]; omega)
    have c3 : decide (Int.toNat (j : Int) < (List.replicate j c ++ List.replicate (64 - j) (0 : Int)).length) = true := decide_eq_true (by rw [hlen]; omega)
    have c4 : decide (j < (List.replicate j c ++ List.replicate (64 - j) (0 : Int)).length) = true := decide_eq_true (by rw [hlen]; omega)
    have w1 : IntKind.wrap IntKind.i64 ((j : Int) + (1 : Int)) = ((j + 1 : Nat) : Int) := by rw [wid (by omega) (by omega)]; push_cast; rfl
    simp only [fil_step, Tr.val, c1, c2, c3, c4, w1, nn_t, Bool.and_self, cond_true, Int.toNat_natCast, set_rep c 64 j hj])
  exact R
set_option maxRecDepth 100000 in
theorem fva_tree (P : (Ty.list .str).den) (fu : Int) (de : Bool) (ke : Int) : evalF Try.prog S0 (opens []) fsA_L55 9 12 [.ag [.d false false .str P, .v false (.int .i64 fu), .v false (.bool de), .v false (.int .i64 ke)]] = .br ((bif bif bif decide ((↑(List.length P) : Int) ≥ (2 : Int)) then decide ((↑(List.length P) : Int) ≤ (256 : Int)) else false then bif bif bif decide (fu ≥ (0 : Int)) then decide (fu ≤ (1048576 : Int)) else false then decide (ke ≥ (0 : Int)) else false then decide (ke ≤ (64 : Int)) else false else false then ((((ixv_cond (P, (↑(List.length P) : Int)) ((0 : Int), (0 : Int))) && (bif Nat.beq (Prod.fst (ixv_g (P, (↑(List.length P) : Int)) ((0 : Int), (0 : Int)))) (0 : Nat) then true else (Nat.beq (Prod.fst (ixv_g (P, (↑(List.length P) : Int)) ((0 : Int), (0 : Int)))) (1 : Nat)))))) else true)) (.ret (.one (.v false (.bool (bif bif bif decide ((↑(List.length P) : Int) ≥ (2 : Int)) then decide ((↑(List.length P) : Int) ≤ (256 : Int)) else false then bif bif bif decide (fu ≥ (0 : Int)) then decide (fu ≤ (1048576 : Int)) else false then decide (ke ≥ (0 : Int)) else false then decide (ke ≤ (64 : Int)) else false else false then !decide ((bif Nat.beq (Prod.fst (ixv_g (P, (↑(List.length P) : Int)) ((0 : Int), (0 : Int)))) (0 : Nat) then Prod.fst (Prod.snd (ixv_g (P, (↑(List.length P) : Int)) ((0 : Int), (0 : Int)))) else (-1 : Int)) ≥ (0 : Int)) else false))))) (.bad 116) := by kernel_rfl
theorem fva_val (P : (Ty.list .str).den) (fu : Int) (de : Bool) (ke : Int) (hc : (decide ((P.length : Int) ≤ 9223372036854775806)) = true) : (.br ((bif bif bif decide ((↑(List.length P) : Int) ≥ (2 : Int)) then decide ((↑(List.length P) : Int) ≤ (256 : Int)) else false then bif bif bif decide (fu ≥ (0 : Int)) then decide (fu ≤ (1048576 : Int)) else false then decide (ke ≥ (0 : Int)) else false then decide (ke ≤ (64 : Int)) else false else false then ((((ixv_cond (P, (↑(List.length P) : Int)) ((0 : Int), (0 : Int))) && (bif Nat.beq (Prod.fst (ixv_g (P, (↑(List.length P) : Int)) ((0 : Int), (0 : Int)))) (0 : Nat) then true else (Nat.beq (Prod.fst (ixv_g (P, (↑(List.length P) : Int)) ((0 : Int), (0 : Int)))) (1 : Nat)))))) else true)) (.ret (.one (.v false (.bool (bif bif bif decide ((↑(List.length P) : Int) ≥ (2 : Int)) then decide ((↑(List.length P) : Int) ≤ (256 : Int)) else false then bif bif bif decide (fu ≥ (0 : Int)) then decide (fu ≤ (1048576 : Int)) else false then decide (ke ≥ (0 : Int)) else false then decide (ke ≤ (64 : Int)) else false else false then !decide ((bif Nat.beq (Prod.fst (ixv_g (P, (↑(List.length P) : Int)) ((0 : Int), (0 : Int)))) (0 : Nat) then Prod.fst (Prod.snd (ixv_g (P, (↑(List.length P) : Int)) ((0 : Int), (0 : Int)))) else (-1 : Int)) ≥ (0 : Int)) else false))))) (.bad 116) : Tr AV).val = some (.one (.v false (.bool (fvl P fu ke)))) := by
  simp only [decide_eq_true_eq] at hc
  show cond _ _ _ = _
  unfold fvl
  obtain ⟨v1, v2⟩ := ixv_run hc
  by_cases hr : 2 ≤ P.length ∧ P.length ≤ 256 ∧ 0 ≤ fu ∧ fu ≤ 1048576 ∧ 0 ≤ ke ∧ ke ≤ 64
  · obtain ⟨r1, r2, r3, r4, r5, r6⟩ := hr
    have e1 : decide ((P.length : Int) ≥ 2) = true := decide_eq_true (by omega)
    have e2 : decide ((P.length : Int) ≤ 256) = true := decide_eq_true (by omega)
    have e3 : decide (fu ≥ (0 : Int)) = true := decide_eq_true (by omega)
    have e5 : decide (ke ≥ (0 : Int)) = true := decide_eq_true (by omega)
    rcases v2 with ⟨g1, g2⟩ | ⟨g1, j, g2⟩
    · simp [v1, g1, g2, e1, e2, e3, e5, r1, r2, r3, r4, r5, r6, Tr.val, Nat.beq]
    · simp [v1, g1, g2, e1, e2, e3, e5, r1, r2, r3, r4, r5, r6, Tr.val, Nat.beq]
  · have e0 : (bif bif decide ((P.length : Int) ≥ (2 : Int)) then decide ((P.length : Int) ≤ (256 : Int)) else false then bif bif bif decide (fu ≥ (0 : Int)) then decide (fu ≤ (1048576 : Int)) else false then decide (ke ≥ (0 : Int)) else false then decide (ke ≤ (64 : Int)) else false else false) = false := by
      rw [← Bool.not_eq_true]
      intro h
      simp [Bool.cond_eq_ite] at h
      omega
    have e0' : (bif bif bif bif bif decide ((P.length : Int) ≥ (2 : Int)) then decide ((P.length : Int) ≤ (256 : Int)) else false then decide (fu ≥ (0 : Int)) else false then decide (fu ≤ (1048576 : Int)) else false then decide (ke ≥ (0 : Int)) else false then decide (ke ≤ (64 : Int)) else false) = false := by
      rw [← Bool.not_eq_true]
      intro h
      simp [Bool.cond_eq_ite] at h
      omega
    rw [decide_eq_false hr, Bool.and_false]
    simp only [e0, e0']
    rcases v2 with ⟨g1, g2⟩ | ⟨g1, j, g2⟩
    · simp [v1, g2, Tr.val, Nat.beq]
    · simp [v1, g2, Tr.val, Nat.beq]
noncomputable def fva_g : List AV → Option (Tr AV)
  | [.ag [.d _ _ .str P, .v _ (.int .i64 fu), .v _ (.bool de), .v _ (.int .i64 ke)]] => some (.br (decide ((P.length : Int) ≤ 9223372036854775806)) (.ret (.one (.v false (.bool (fvl P fu ke))))) (.bad 900))
  | _ => none
set_option maxHeartbeats 4000000 in
theorem fva_ok : FunOK Try.prog 12 fva_g := by
  refine fun_ok (by kernel_rfl) (S0_ok _) (fsA_L55_ok) 9 (On := (opens [])) (fun args t h => ?_)
  unfold fva_g at h
  split at h
  · rename_i _ _ P _ fu _ de _ ke
    simp only [Option.some.injEq] at h
    subst h
    refine ⟨[.ag [.d false false .str P, .v false (.int .i64 fu), .v false (.bool de), .v false (.int .i64 ke)]], rfl, fun fr w us h => h, fun r hr => ?_⟩
    obtain ⟨hc, hr⟩ := br_bad hr
    simp only [Tr.val, Option.some.injEq] at hr
    subst hr
    rw [fva_tree]
    exact fva_val P fu de ke hc
  · cases h
noncomputable def fsA_S56 : Sums := addS 12 fva_g S0
theorem fsA_S56_ok : SumOK Try.prog fsA_S56 := addS_ok (fva_ok) (S0_ok _)
set_option maxRecDepth 100000 in
theorem fvb_tree (P : (Ty.list .str).den) (fu : Int) (de : Bool) (ke : Int) : evalF Try.prog fsA_S56 (opens []) fsA_L55 9 17 [.ag [.d false false .str P, .v false (.int .i64 fu), .v false (.bool de), .v false (.int .i64 ke)]] = .br (((vrv_cond (P, (↑(List.length P) : Int), P, fu, de, ke) (false, (0 : Int))) && (bif Nat.beq (Prod.fst (vrv_g (P, (↑(List.length P) : Int), P, fu, de, ke) (false, (0 : Int)))) (0 : Nat) then true else (Nat.beq (Prod.fst (vrv_g (P, (↑(List.length P) : Int), P, fu, de, ke) (false, (0 : Int)))) (1 : Nat))))) (.ret (.one (.v false (.bool (bif Nat.beq (Prod.fst (vrv_g (P, (↑(List.length P) : Int), P, fu, de, ke) (false, (0 : Int)))) (0 : Nat) then Prod.fst (Prod.snd (vrv_g (P, (↑(List.length P) : Int), P, fu, de, ke) (false, (0 : Int)))) else bif bif bif bif bif decide ((↑(List.length P) : Int) ≥ (2 : Int)) then decide ((↑(List.length P) : Int) ≤ (256 : Int)) else false then decide (fu ≥ (0 : Int)) else false then decide (fu ≤ (1048576 : Int)) else false then decide (ke ≥ (0 : Int)) else false then decide (ke ≤ (64 : Int)) else false))))) (.bad 116) := by kernel_rfl
theorem fvb_val (P : (Ty.list .str).den) (fu : Int) (de : Bool) (ke : Int) (hc : (decide ((P.length : Int) ≤ 9223372036854775806)) = true) : (.br (((vrv_cond (P, (↑(List.length P) : Int), P, fu, de, ke) (false, (0 : Int))) && (bif Nat.beq (Prod.fst (vrv_g (P, (↑(List.length P) : Int), P, fu, de, ke) (false, (0 : Int)))) (0 : Nat) then true else (Nat.beq (Prod.fst (vrv_g (P, (↑(List.length P) : Int), P, fu, de, ke) (false, (0 : Int)))) (1 : Nat))))) (.ret (.one (.v false (.bool (bif Nat.beq (Prod.fst (vrv_g (P, (↑(List.length P) : Int), P, fu, de, ke) (false, (0 : Int)))) (0 : Nat) then Prod.fst (Prod.snd (vrv_g (P, (↑(List.length P) : Int), P, fu, de, ke) (false, (0 : Int)))) else bif bif bif bif bif decide ((↑(List.length P) : Int) ≥ (2 : Int)) then decide ((↑(List.length P) : Int) ≤ (256 : Int)) else false then decide (fu ≥ (0 : Int)) else false then decide (fu ≤ (1048576 : Int)) else false then decide (ke ≥ (0 : Int)) else false then decide (ke ≤ (64 : Int)) else false))))) (.bad 116) : Tr AV).val = some (.one (.v false (.bool (fvl P fu ke)))) := by
  simp only [decide_eq_true_eq] at hc
  show cond _ _ _ = _
  unfold fvl
  obtain ⟨v1, v2⟩ := vrv_run (fu := fu) (de := de) (ke := ke) hc
  by_cases hr : 2 ≤ P.length ∧ P.length ≤ 256 ∧ 0 ≤ fu ∧ fu ≤ 1048576 ∧ 0 ≤ ke ∧ ke ≤ 64
  · obtain ⟨r1, r2, r3, r4, r5, r6⟩ := hr
    have e1 : decide ((P.length : Int) ≥ 2) = true := decide_eq_true (by omega)
    have e2 : decide ((P.length : Int) ≤ 256) = true := decide_eq_true (by omega)
    have e3 : decide (fu ≥ (0 : Int)) = true := decide_eq_true (by omega)
    have e5 : decide (ke ≥ (0 : Int)) = true := decide_eq_true (by omega)
    rcases v2 with ⟨g1, g2⟩ | ⟨g1, j, g2⟩
    · simp [v1, g1, g2, e1, e2, e3, e5, r1, r2, r3, r4, r5, r6, Tr.val, Nat.beq]
    · simp [v1, g1, g2, e1, e2, e3, e5, r1, r2, r3, r4, r5, r6, Tr.val, Nat.beq]
  · have e0 : (bif bif decide ((P.length : Int) ≥ (2 : Int)) then decide ((P.length : Int) ≤ (256 : Int)) else false then bif bif bif decide (fu ≥ (0 : Int)) then decide (fu ≤ (1048576 : Int)) else false then decide (ke ≥ (0 : Int)) else false then decide (ke ≤ (64 : Int)) else false else false) = false := by
      rw [← Bool.not_eq_true]
      intro h
      simp [Bool.cond_eq_ite] at h
      omega
    have e0' : (bif bif bif bif bif decide ((P.length : Int) ≥ (2 : Int)) then decide ((P.length : Int) ≤ (256 : Int)) else false then decide (fu ≥ (0 : Int)) else false then decide (fu ≤ (1048576 : Int)) else false then decide (ke ≥ (0 : Int)) else false then decide (ke ≤ (64 : Int)) else false) = false := by
      rw [← Bool.not_eq_true]
      intro h
      simp [Bool.cond_eq_ite] at h
      omega
    rw [decide_eq_false hr, Bool.and_false]
    simp only [e0, e0']
    rcases v2 with ⟨g1, g2⟩ | ⟨g1, j, g2⟩
    · simp [v1, g2, Tr.val, Nat.beq]
    · simp [v1, g2, Tr.val, Nat.beq]
noncomputable def fvb_g : List AV → Option (Tr AV)
  | [.ag [.d _ _ .str P, .v _ (.int .i64 fu), .v _ (.bool de), .v _ (.int .i64 ke)]] => some (.br (decide ((P.length : Int) ≤ 9223372036854775806)) (.ret (.one (.v false (.bool (fvl P fu ke))))) (.bad 900))
  | _ => none
set_option maxHeartbeats 4000000 in
theorem fvb_ok : FunOK Try.prog 17 fvb_g := by
  refine fun_ok (by kernel_rfl) (fsA_S56_ok) (fsA_L55_ok) 9 (On := (opens [])) (fun args t h => ?_)
  unfold fvb_g at h
  split at h
  · rename_i _ _ P _ fu _ de _ ke
    simp only [Option.some.injEq] at h
    subst h
    refine ⟨[.ag [.d false false .str P, .v false (.int .i64 fu), .v false (.bool de), .v false (.int .i64 ke)]], rfl, fun fr w us h => h, fun r hr => ?_⟩
    obtain ⟨hc, hr⟩ := br_bad hr
    simp only [Tr.val, Option.some.injEq] at hr
    subst hr
    rw [fvb_tree]
    exact fvb_val P fu de ke hc
  · cases h
noncomputable def fsA_S57 : Sums := addS 17 fvb_g fsA_S56
theorem fsA_S57_ok : SumOK Try.prog fsA_S57 := addS_ok (fvb_ok) (fsA_S56_ok)
set_option maxRecDepth 100000 in
theorem fsc_tree (P : (Ty.list .str).den) (fu : Int) (de : Bool) (ke : Int) (Q : (Ty.list .str).den) (gu : Int) (ee : Bool) (le : Int) : evalF Try.prog fsA_S57 (opens []) fsA_L55 9 11 [.ag [.d false false .str P, .v false (.int .i64 fu), .v false (.bool de), .v false (.int .i64 ke)], .ag [.d false false .str Q, .v false (.int .i64 gu), .v false (.bool ee), .v false (.int .i64 le)]] = .br ((bif bif bif bif (↑(List.length P) : Int) != (↑(List.length Q) : Int) then true else fu != gu then true else !de == ee then true else ke != le then true else ((sam_cond ((↑(List.length P) : Int), Q, gu, ee, le, P, fu, de, ke) (false, (0 : Int))) && (bif Nat.beq (Prod.fst (sam_g ((↑(List.length P) : Int), Q, gu, ee, le, P, fu, de, ke) (false, (0 : Int)))) (0 : Nat) then true else (Nat.beq (Prod.fst (sam_g ((↑(List.length P) : Int), Q, gu, ee, le, P, fu, de, ke) (false, (0 : Int)))) (1 : Nat)))))) (.ret (.one (.v false (.bool (bif bif bif bif (↑(List.length P) : Int) != (↑(List.length Q) : Int) then true else fu != gu then true else !de == ee then true else ke != le then false else bif Nat.beq (Prod.fst (sam_g ((↑(List.length P) : Int), Q, gu, ee, le, P, fu, de, ke) (false, (0 : Int)))) (0 : Nat) then Prod.fst (Prod.snd (sam_g ((↑(List.length P) : Int), Q, gu, ee, le, P, fu, de, ke) (false, (0 : Int)))) else true))))) (.bad 116) := by kernel_rfl
theorem fsc_val (P : (Ty.list .str).den) (fu : Int) (de : Bool) (ke : Int) (Q : (Ty.list .str).den) (gu : Int) (ee : Bool) (le : Int) (hc : (decide ((P.length : Int) ≤ 9223372036854775806)) = true) : (.br ((bif bif bif bif (↑(List.length P) : Int) != (↑(List.length Q) : Int) then true else fu != gu then true else !de == ee then true else ke != le then true else ((sam_cond ((↑(List.length P) : Int), Q, gu, ee, le, P, fu, de, ke) (false, (0 : Int))) && (bif Nat.beq (Prod.fst (sam_g ((↑(List.length P) : Int), Q, gu, ee, le, P, fu, de, ke) (false, (0 : Int)))) (0 : Nat) then true else (Nat.beq (Prod.fst (sam_g ((↑(List.length P) : Int), Q, gu, ee, le, P, fu, de, ke) (false, (0 : Int)))) (1 : Nat)))))) (.ret (.one (.v false (.bool (bif bif bif bif (↑(List.length P) : Int) != (↑(List.length Q) : Int) then true else fu != gu then true else !de == ee then true else ke != le then false else bif Nat.beq (Prod.fst (sam_g ((↑(List.length P) : Int), Q, gu, ee, le, P, fu, de, ke) (false, (0 : Int)))) (0 : Nat) then Prod.fst (Prod.snd (sam_g ((↑(List.length P) : Int), Q, gu, ee, le, P, fu, de, ke) (false, (0 : Int)))) else true))))) (.bad 116) : Tr AV).val = some (.one (.v false (.bool (fsm P fu de ke Q gu ee le)))) := by
  simp only [decide_eq_true_eq] at hc
  show cond _ _ _ = _
  unfold fsm
  by_cases hq : P.length = Q.length ∧ fu = gu ∧ de = ee ∧ ke = le
  · obtain ⟨hl, rfl, rfl, rfl⟩ := hq
    obtain ⟨v1, v2⟩ := sam_run (P := P) (Q := Q) (fu := fu) (gu := fu) (de := de) (ee := de) (ke := ke) (le := ke) hc hl
    rcases v2 with ⟨rfl, g2⟩ | ⟨g1, j, g2⟩
    · simp [v1, g2, Tr.val, Nat.beq]
    · have b : ((P.length : Int) != (Q.length : Int)) = false := by rw [hl]; exact bne_self_eq_false _
      simp [v1, g1, g2, b, Tr.val, Nat.beq]
  · have e0 : (bif bif bif (P.length : Int) != (Q.length : Int) then true else fu != gu then true else !de == ee then true else ke != le) = true := by
      rw [← Bool.not_eq_false]
      intro h
      apply hq
      simp [Bool.cond_eq_ite] at h
      obtain ⟨⟨⟨h1, h2⟩, h3⟩, h4⟩ := h
      exact ⟨by omega, h2, h3, h4⟩
    have e1 : ¬ (P = Q ∧ fu = gu ∧ de = ee ∧ ke = le) := fun ⟨h1, h2⟩ => hq ⟨by rw [h1], h2⟩
    have e2 : (bif bif bif bif (P.length : Int) != (Q.length : Int) then true else fu != gu then true else !de == ee then true else ke != le then true else false) = true := by rw [e0]; rfl
    rw [e0]
    simp only [e0, e1, cond_true, Tr.val, decide_false]
noncomputable def fsc_g : List AV → Option (Tr AV)
  | [.ag [.d _ _ .str P, .v _ (.int .i64 fu), .v _ (.bool de), .v _ (.int .i64 ke)], .ag [.d _ _ .str Q, .v _ (.int .i64 gu), .v _ (.bool ee), .v _ (.int .i64 le)]] => some (.br (decide ((P.length : Int) ≤ 9223372036854775806)) (.ret (.one (.v false (.bool (fsm P fu de ke Q gu ee le))))) (.bad 900))
  | _ => none
set_option maxHeartbeats 4000000 in
theorem fsc_ok : FunOK Try.prog 11 fsc_g := by
  refine fun_ok (by kernel_rfl) (fsA_S57_ok) (fsA_L55_ok) 9 (On := (opens [])) (fun args t h => ?_)
  unfold fsc_g at h
  split at h
  · rename_i _ _ P _ fu _ de _ ke _ _ Q _ gu _ ee _ le
    simp only [Option.some.injEq] at h
    subst h
    refine ⟨[.ag [.d false false .str P, .v false (.int .i64 fu), .v false (.bool de), .v false (.int .i64 ke)], .ag [.d false false .str Q, .v false (.int .i64 gu), .v false (.bool ee), .v false (.int .i64 le)]], rfl, fun fr w us h => h, fun r hr => ?_⟩
    obtain ⟨hc, hr⟩ := br_bad hr
    simp only [Tr.val, Option.some.injEq] at hr
    subst hr
    rw [fsc_tree]
    exact fsc_val P fu de ke Q gu ee le hc
  · cases h
noncomputable def fsA_S58 : Sums := addS 11 fsc_g fsA_S57
theorem fsA_S58_ok : SumOK Try.prog fsA_S58 := addS_ok (fsc_ok) (fsA_S57_ok)
set_option maxRecDepth 100000 in
theorem hec_tree (P : (Ty.list .str).den) (fu : Int) (de : Bool) (ke : Int) (I : Int) (D : ByteArray) (N : Int) (kk : Int) : evalF Try.prog fsA_S58 (opens []) fsA_L55 9 14 [.ag [.d false false .str P, .v false (.int .i64 fu), .v false (.bool de), .v false (.int .i64 ke), .v false (.int .i64 I), .v false (.string D), .v false (.int .i64 N), .v false (.int .i64 kk)]] = .br ((bif bif decide ((↑(List.length P) : Int) > (259 : Int)) then true else decide ((↑(ByteArray.size D) : Int) > (1000 : Int)) then true else ((hea_cond (P, (↑(List.length P) : Int)) (false, (0 : Int))) && (bif Nat.beq (Prod.fst (hea_g (P, (↑(List.length P) : Int)) (false, (0 : Int)))) (0 : Nat) then true else (Nat.beq (Prod.fst (hea_g (P, (↑(List.length P) : Int)) (false, (0 : Int)))) (1 : Nat)))))) (.ret (.one (.v false (.bool (bif bif decide ((↑(List.length P) : Int) > (259 : Int)) then true else decide ((↑(ByteArray.size D) : Int) > (1000 : Int)) then true else bif Nat.beq (Prod.fst (hea_g (P, (↑(List.length P) : Int)) (false, (0 : Int)))) (0 : Nat) then Prod.fst (Prod.snd (hea_g (P, (↑(List.length P) : Int)) (false, (0 : Int)))) else false))))) (.bad 116) := by kernel_rfl
set_option maxHeartbeats 4000000 in
theorem hec_val (P : (Ty.list .str).den) (fu : Int) (de : Bool) (ke : Int) (I : Int) (D : ByteArray) (N : Int) (kk : Int) : (.br ((bif bif decide ((↑(List.length P) : Int) > (259 : Int)) then true else decide ((↑(ByteArray.size D) : Int) > (1000 : Int)) then true else ((hea_cond (P, (↑(List.length P) : Int)) (false, (0 : Int))) && (bif Nat.beq (Prod.fst (hea_g (P, (↑(List.length P) : Int)) (false, (0 : Int)))) (0 : Nat) then true else (Nat.beq (Prod.fst (hea_g (P, (↑(List.length P) : Int)) (false, (0 : Int)))) (1 : Nat)))))) (.ret (.one (.v false (.bool (bif bif decide ((↑(List.length P) : Int) > (259 : Int)) then true else decide ((↑(ByteArray.size D) : Int) > (1000 : Int)) then true else bif Nat.beq (Prod.fst (hea_g (P, (↑(List.length P) : Int)) (false, (0 : Int)))) (0 : Nat) then Prod.fst (Prod.snd (hea_g (P, (↑(List.length P) : Int)) (false, (0 : Int)))) else false))))) (.bad 116) : Tr AV).val = some (.one (.v false (.bool (hvy P D)))) := by
  show cond _ _ _ = _
  unfold hvy
  have e1 : decide ((P.length : Int) > 259) = decide (259 < P.length) := by rw [Bool.eq_iff_iff]; simp; omega
  have e2 : decide ((D.size : Int) > 1000) = decide (1000 < D.size) := by rw [Bool.eq_iff_iff]; simp; omega
  rw [e1, e2]
  by_cases hl : 259 < P.length
  · rw [decide_eq_true hl]; simp [Tr.val]
  · rw [decide_eq_false hl]
    obtain ⟨v1, v2⟩ := hea_run (P := P) (by omega)
    generalize decide (1000 < D.size) = b2
    rcases v2 with ⟨g1, g2⟩ | ⟨g1, j, g2⟩
    · cases b2 <;> simp [v1, g1, g2, Tr.val, Nat.beq]
    · cases b2 <;> simp [v1, g1, g2, Tr.val, Nat.beq]
noncomputable def hec_g : List AV → Option (Tr AV)
  | [.ag [.d _ _ .str P, .v _ (.int .i64 fu), .v _ (.bool de), .v _ (.int .i64 ke), .v _ (.int .i64 I), .v _ (.string D), .v _ (.int .i64 N), .v _ (.int .i64 kk)]] => some (.ret (.one (.v false (.bool (hvy P D)))))
  | _ => none
set_option maxHeartbeats 4000000 in
theorem hec_ok : FunOK Try.prog 14 hec_g := by
  refine fun_ok (by kernel_rfl) (fsA_S58_ok) (fsA_L55_ok) 9 (On := (opens [])) (fun args t h => ?_)
  unfold hec_g at h
  split at h
  · rename_i _ _ P _ fu _ de _ ke _ I _ D _ N _ kk
    simp only [Option.some.injEq] at h
    subst h
    refine ⟨[.ag [.d false false .str P, .v false (.int .i64 fu), .v false (.bool de), .v false (.int .i64 ke), .v false (.int .i64 I), .v false (.string D), .v false (.int .i64 N), .v false (.int .i64 kk)]], rfl, fun fr w us h => h, fun r hr => ?_⟩
    simp only [Tr.val, Option.some.injEq] at hr
    subst hr
    rw [hec_tree]
    exact hec_val P fu de ke I D N kk
  · cases h
noncomputable def fsA_S59 : Sums := addS 14 hec_g fsA_S58
theorem fsA_S59_ok : SumOK Try.prog fsA_S59 := addS_ok (hec_ok) (fsA_S58_ok)
set_option maxRecDepth 100000 in
theorem flc_tree (c : Int) : evalF Try.prog fsA_S59 (opens []) fsA_L55 9 24 [.one (.v false (.int .u8 c))] = .br (((fil_cond (c, (ByteArray.mk #[]), (↑(List.length (List.replicate (Int.toNat (64 : Int)) (0 : Int))) : Int)) ((0 : Int), List.replicate (Int.toNat (64 : Int)) (0 : Int))) && (Nat.beq (Prod.fst (fil_g (c, (ByteArray.mk #[]), (↑(List.length (List.replicate (Int.toNat (64 : Int)) (0 : Int))) : Int)) ((0 : Int), List.replicate (Int.toNat (64 : Int)) (0 : Int)))) (0 : Nat)))) (.ret (.one (.v false (.string (ofInts (Prod.snd (Prod.snd (fil_g (c, (ByteArray.mk #[]), (↑(List.length (List.replicate (Int.toNat (64 : Int)) (0 : Int))) : Int)) ((0 : Int), List.replicate (Int.toNat (64 : Int)) (0 : Int)))))))))) (.bad 116) := by kernel_rfl
set_option maxHeartbeats 4000000 in
theorem flc_val (c : Int) : (.br (((fil_cond (c, (ByteArray.mk #[]), (↑(List.length (List.replicate (Int.toNat (64 : Int)) (0 : Int))) : Int)) ((0 : Int), List.replicate (Int.toNat (64 : Int)) (0 : Int))) && (Nat.beq (Prod.fst (fil_g (c, (ByteArray.mk #[]), (↑(List.length (List.replicate (Int.toNat (64 : Int)) (0 : Int))) : Int)) ((0 : Int), List.replicate (Int.toNat (64 : Int)) (0 : Int)))) (0 : Nat)))) (.ret (.one (.v false (.string (ofInts (Prod.snd (Prod.snd (fil_g (c, (ByteArray.mk #[]), (↑(List.length (List.replicate (Int.toNat (64 : Int)) (0 : Int))) : Int)) ((0 : Int), List.replicate (Int.toNat (64 : Int)) (0 : Int)))))))))) (.bad 116) : Tr AV).val = some (.one (.v false (.string (fld c)))) := by
  obtain ⟨v1, v2⟩ := fil_run c ⟨#[]⟩
  have e : (64 : Int).toNat = 64 := rfl
  show cond _ _ _ = _
  simp only [e, List.length_replicate]
  have v1' : fil_cond (c, ⟨#[]⟩, ((64 : Nat) : Int)) (0, List.replicate 64 0) = true := v1
  have v2' : fil_g (c, ⟨#[]⟩, ((64 : Nat) : Int)) (0, List.replicate 64 0) = (0, (64, List.replicate 64 c)) := v2
  simp only [v1', v2', Nat.beq, Bool.and_self, cond_true, Tr.val, fld]
noncomputable def flc_g : List AV → Option (Tr AV)
  | [.one (.v _ (.int .u8 c))] => some (.ret (.one (.v false (.string (fld c)))))
  | _ => none
set_option maxHeartbeats 4000000 in
theorem flc_ok : FunOK Try.prog 24 flc_g := by
  refine fun_ok (by kernel_rfl) (fsA_S59_ok) (fsA_L55_ok) 9 (On := (opens [])) (fun args t h => ?_)
  unfold flc_g at h
  split at h
  · rename_i _ c
    simp only [Option.some.injEq] at h
    subst h
    refine ⟨[.one (.v false (.int .u8 c))], rfl, fun fr w us h => h, fun r hr => ?_⟩
    simp only [Tr.val, Option.some.injEq] at hr
    subst hr
    rw [flc_tree]
    exact flc_val c
  · cases h
noncomputable def fsA_S60 : Sums := addS 24 flc_g fsA_S59
theorem fsA_S60_ok : SumOK Try.prog fsA_S60 := addS_ok (flc_ok) (fsA_S59_ok)
noncomputable def srp_g : List AV → Option (Tr AV)
  | [.one (.v _ (.string s)), .one (.v _ (.int .i64 n))] => some (.br (decide (s = ⟨#[0]⟩ ∧ n = 64)) (.ret (.one (.v true (.string zpS)))) (.bad 900))
  | _ => none
set_option maxHeartbeats 4000000 in
theorem srp_ok : FunOK Try.prog 26 srp_g := by
  refine fun_of_calls fun args t h r hr fr w us hus => ?_
  unfold srp_g at h
  split at h
  · rename_i _ s _ n
    simp only [Option.some.injEq] at h
    subst h
    obtain ⟨hc, hr⟩ := br_bad hr
    simp only [Tr.val, Option.some.injEq] at hr
    subst hr
    obtain ⟨_, _, rfl, e0, _, _, rfl, e1, rfl⟩ := hus
    cases e0; cases e1
    exact ⟨_, by
      have hc := of_decide_eq_true hc
      obtain ⟨rfl, rfl⟩ := hc
      have c := Try.strings_Repeat ⟨#[0]⟩ 64 w (by omega) (by decide)
      have e : (⟨(Lib.repeatL [0] 64).toArray⟩ : ByteArray) = zpS := by kernel_rfl
      rw [show (ByteArray.mk #[0]).data.toList = [0] from rfl, e] at c
      exact c, fun _ _ => rfl, rfl⟩
  · cases h
noncomputable def fsA_S61 : Sums := addS 26 srp_g fsA_S60
theorem fsA_S61_ok : SumOK Try.prog fsA_S61 := addS_ok (srp_ok) (fsA_S60_ok)
end Go.Proofs.Ytabjagbdaamaaaa
