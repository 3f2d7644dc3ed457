/-
  Layer 7: Check of both.
-/
import Derived.Test.YtbagcmeeiiohpaaProg
import Derived.Test.YtbagcmeeiiohpaaFvX
import Derived.Test.YtbagcmeeiiohpaaFvZ
import Derived.Test.YtbagcmeeiiohpaaAut
import Derived.Test.YtbagcmeeiiohpaaRd
import Derived.Test.YtbagcmeeiiohpaaPl
import Derived.Test.YtbagcmeeiiohpaaSeA
namespace Go.Proofs.Ytbagcmeeiiohpaa
open Go
abbrev mck0_U : Type := (Ty.list (.prod (.int .i64) (.prod (.int .i64) (.int .i64)))).den × Int × (Ty.list (.prod (.int .i64) (.prod (.int .i64) (.int .i64)))).den × (Ty.list (.prod (.int .i64) (.prod (.int .i64) (.int .i64)))).den
abbrev mck0_V : Type := Int × Int
noncomputable def mck0_St (u : mck0_U) (v : mck0_V) : Stt := ⟨[.one .junk, .one (.p 0 0), .one (.v false (.int .i64 v.1)), .one .junk, .one .junk, .one .junk, .one .junk, .one .junk, .one .junk, .one .junk, .one .junk, .one .junk, .one .junk, .one .junk, .one .junk, .one .junk, .one .junk, .one .junk, .one (.d false false (.prod (.int .i64) (.prod (.int .i64) (.int .i64))) u.1), .one (.v false (.int .i64 u.2.1)), .one (.v false (.int .i64 v.2)), .one .junk, .one .junk, .one .junk, .one .junk, .one .junk, .one .junk, .one .junk, .one .junk, .one .junk, .one .junk, .one .junk, .one .junk, .one .junk, .one .junk, .one .junk, .one .junk, .one .junk, .one .junk, .one .junk, .one .junk, .one .junk, .one .junk, .one .junk, .one .junk, .one .junk, .one .junk, .one .junk, .one .junk, .one .junk, .one .junk, .one .junk, .one .junk, .one .junk, .one .junk, .one .junk], [(0, .cells [.d false false (.prod (.int .i64) (.prod (.int .i64) (.int .i64))) u.2.2.1, .d false false (.prod (.int .i64) (.prod (.int .i64) (.int .i64))) u.2.2.2])], 1014⟩
def el_iii (l : (Ty.list (Ty.prod (Ty.int IntKind.i64) (Ty.prod (Ty.int IntKind.i64) (Ty.int IntKind.i64)))).den) (i : Int) : (Int × (Int × Int)) := elm (Ty.prod (Ty.int IntKind.i64) (Ty.prod (Ty.int IntKind.i64) (Ty.int IntKind.i64))) l i
noncomputable def mck0_step (u : mck0_U) (v : mck0_V) : Tr (mck0_V ⊕ (Nat × mck0_V)) :=
  match u, v with
  | (q1, q2, _, _), (q0, q3) => .br (decide (q3 < q2)) (.br (decide ((0 : Int) ≤ q3) && decide (q3 < (↑(List.length q1) : Int))) (.br (!vOk (Prod.fst (el_iii q1 q3)) (Prod.fst (Prod.snd (el_iii q1 q3))) (Prod.snd (Prod.snd (el_iii q1 q3)))) (.ret (.inr (0, (8, q3)))) (.ret (.inl (q0, IntKind.wrap IntKind.i64 (q3 + (1 : Int)))))) (.bad 29)) (.ret (.inr (1, (q0, q3))))
set_option maxRecDepth 100000 in
set_option maxHeartbeats 4000000 in
theorem mck0_step_eq : ∀ (u : mck0_U) (v : mck0_V), (evalC Try.prog (evalB Try.prog seA_S59 (opens []) L0 7).1 (evalB Try.prog seA_S59 (opens []) L0 7).2 (opens []) (L0 14) 100000 (0 :: [0, 1, 0, 1, 1]) (loopOf (bodyOf Try.prog 14) [1, 1, 0, 1, 0]) (mck0_St u v) []).bind (finF [0, 3, 4, 5, 6, 7, 8, 9, 10, 11, 12, 13, 14, 15, 16, 17, 21, 22, 23, 24, 25, 26, 27, 28, 29, 30, 31, 32, 33, 34, 35, 36, 37, 38, 39, 40, 41, 42, 43, 44, 45, 46, 47, 48, 49, 50, 51, 52, 53, 54, 55] [] [0] [] 1014) = (mck0_step u v).bind (outA (mck0_St u) [.ret, .exit 0]) := by
  rintro ⟨q1, q2, q4, q5⟩ ⟨q0, q3⟩
  kernel_rfl
noncomputable def mck0_rd (b : Bool) (o1 : Option AV) (o2 : Option AV) (o18 : Option AV) (o19 : Option AV) (o20 : Option AV) (own : Own) : Option (mck0_U × mck0_V) := zrT b <| zrO o1 fun za1 => zrA1 za1 fun zc2 => zrP 0 0 zc2 <| zrO o2 fun za3 => zrA1 za3 fun zc4 => zrI .i64 zc4 fun q0 => zrO o18 fun za5 => zrA1 za5 fun zc6 => zrD (.prod (.int .i64) (.prod (.int .i64) (.int .i64))) zc6 fun q1 => zrO o19 fun za7 => zrA1 za7 fun zc8 => zrI .i64 zc8 fun q2 => zrO o20 fun za9 => zrA1 za9 fun zc10 => zrI .i64 zc10 fun q3 => zrL own fun zq11 zw12 => zrKey 0 zq11 fun zk13 => zrC zk13 fun zl14 => zrL zl14 fun zc15 zr16 => zrD (.prod (.int .i64) (.prod (.int .i64) (.int .i64))) zc15 fun q4 => zrL zr16 fun zc17 zr18 => zrD (.prod (.int .i64) (.prod (.int .i64) (.int .i64))) zc17 fun q5 => zrN zr18 <| zrN zw12 <| some ((q1, q2, q4, q5), (q0, q3))
noncomputable def mck0_can (st : Stt) : Stt := canA [0, 3, 4, 5, 6, 7, 8, 9, 10, 11, 12, 13, 14, 15, 16, 17, 21, 22, 23, 24, 25, 26, 27, 28, 29, 30, 31, 32, 33, 34, 35, 36, 37, 38, 39, 40, 41, 42, 43, 44, 45, 46, 47, 48, 49, 50, 51, 52, 53, 54, 55] [] [0] [] 1014 st
noncomputable def mck0_cok (st : Stt) : Bool := canAok [0, 3, 4, 5, 6, 7, 8, 9, 10, 11, 12, 13, 14, 15, 16, 17, 21, 22, 23, 24, 25, 26, 27, 28, 29, 30, 31, 32, 33, 34, 35, 36, 37, 38, 39, 40, 41, 42, 43, 44, 45, 46, 47, 48, 49, 50, 51, 52, 53, 54, 55] [] [0] [] 1014 st
noncomputable def mck0_read (st : Stt) : Option (mck0_U × mck0_V) := mck0_rd (mck0_cok st && (staysA [] [0] st.own && juAll [0, 3, 4, 5, 6, 7, 8, 9, 10, 11, 12, 13, 14, 15, 16, 17, 21, 22, 23, 24, 25, 26, 27, 28, 29, 30, 31, 32, 33, 34, 35, 36, 37, 38, 39, 40, 41, 42, 43, 44, 45, 46, 47, 48, 49, 50, 51, 52, 53, 54, 55] (mck0_can st).tm 56)) (mck0_can st).tm[1]? (mck0_can st).tm[2]? (mck0_can st).tm[18]? (mck0_can st).tm[19]? (mck0_can st).tm[20]? (mck0_can st).own
set_option maxRecDepth 100000 in
set_option maxHeartbeats 4000000 in
theorem mck0_rd_ok {b : Bool} {tm : List AV} {own : Own} {u : mck0_U} {v : mck0_V} (hj : b = true → juAll [0, 3, 4, 5, 6, 7, 8, 9, 10, 11, 12, 13, 14, 15, 16, 17, 21, 22, 23, 24, 25, 26, 27, 28, 29, 30, 31, 32, 33, 34, 35, 36, 37, 38, 39, 40, 41, 42, 43, 44, 45, 46, 47, 48, 49, 50, 51, 52, 53, 54, 55] tm 56 = true) (h : mck0_rd b tm[1]? tm[2]? tm[18]? tm[19]? tm[20]? own = some (u, v)) : b = true ∧ tm = (mck0_St u v).tm ∧ own = (mck0_St u v).own := by
  unfold mck0_rd at h
  obtain ⟨rfl, h0⟩ := zrT_some h
  obtain ⟨za1, e1, h1⟩ := zrO_some h0
  obtain ⟨zc2, rfl, h2⟩ := zrA1_some h1
  obtain ⟨rfl, h3⟩ := zrP_some h2
  obtain ⟨za3, e2, h4⟩ := zrO_some h3
  obtain ⟨zc4, rfl, h5⟩ := zrA1_some h4
  obtain ⟨q0, rfl, h6⟩ := zrI_some h5
  obtain ⟨za5, e18, h7⟩ := zrO_some h6
  obtain ⟨zc6, rfl, h8⟩ := zrA1_some h7
  obtain ⟨q1, rfl, h9⟩ := zrD_some h8
  obtain ⟨za7, e19, h10⟩ := zrO_some h9
  obtain ⟨zc8, rfl, h11⟩ := zrA1_some h10
  obtain ⟨q2, rfl, h12⟩ := zrI_some h11
  obtain ⟨za9, e20, h13⟩ := zrO_some h12
  obtain ⟨zc10, rfl, h14⟩ := zrA1_some h13
  obtain ⟨q3, rfl, h15⟩ := zrI_some h14
  obtain ⟨zq11, zw12, rfl, h16⟩ := zrL_some h15
  obtain ⟨zk13, rfl, h17⟩ := zrKey_some h16
  obtain ⟨zl14, rfl, h18⟩ := zrC_some h17
  obtain ⟨zc15, zr16, rfl, h19⟩ := zrL_some h18
  obtain ⟨q4, rfl, h20⟩ := zrD_some h19
  obtain ⟨zc17, zr18, rfl, h21⟩ := zrL_some h20
  obtain ⟨q5, rfl, h22⟩ := zrD_some h21
  obtain ⟨rfl, h23⟩ := zrN_some h22
  obtain ⟨rfl, h24⟩ := zrN_some h23
  have h := Option.some.inj h24
  have hu := congrArg Prod.fst h
  have hv := congrArg Prod.snd h
  dsimp only at hu hv
  subst hu
  subst hv
  exact ⟨rfl, (tm_fill (hj rfl) (Lv := [(1, .one (.p 0 0)), (2, .one (.v false (.int .i64 q0))), (18, .one (.d false false (.prod (.int .i64) (.prod (.int .i64) (.int .i64))) q1)), (19, .one (.v false (.int .i64 q2))), (20, .one (.v false (.int .i64 q3)))]) (by kernel_rfl) ⟨e1, e2, e18, e19, e20, trivial⟩).trans (by kernel_rfl), rfl⟩
theorem mck0_read_ok (st : Stt) (u : mck0_U) (v : mck0_V) (h : mck0_read st = some (u, v)) : mck0_cok st = true ∧ staysA [] [0] st.own = true ∧ mck0_can st = mck0_St u v := by
  obtain ⟨h1, h2, h3⟩ := mck0_rd_ok (fun hb => by rw [Bool.and_eq_true, Bool.and_eq_true] at hb; exact hb.2.2) h
  rw [Bool.and_eq_true, Bool.and_eq_true] at h1
  refine ⟨h1.1, h1.2.1, ?_⟩
  have e : mck0_can st = ⟨(mck0_can st).tm, (mck0_can st).own, 1014⟩ := by kernel_rfl
  rw [e, h2, h3]
  rfl
noncomputable def mck0_cond (u : mck0_U) (v : mck0_V) : Bool := runC (mck0_step u) v
noncomputable def mck0_g (u : mck0_U) (v : mck0_V) : Nat × mck0_V := runG (mck0_step u) v
theorem mck0_hg : ∀ (u : mck0_U) (v : mck0_V), mck0_cond u v = true → loopN (mck0_step u) ((fun u v => runF (mck0_step u) v) u v) v = some (mck0_g u v) := by
  exact fun u v h => run_hg h
noncomputable def mck0_m (st : Stt) : Option (Tr (Ex × Stt)) := sumM mck0_read mck0_cond mck0_St mck0_g [(0, .ret), (1, .exit 0)] st
noncomputable def seB_L51 : FuncId → Loops := addL 14 [0, 1, 0, 1, 1] mck0_m L0
set_option maxRecDepth 100000 in
set_option maxHeartbeats 4000000 in
theorem seB_L51_ok : LoopsOK Try.prog seB_L51 :=
  loop_sumF (body := (bodyOf Try.prog 14)) (c := (loopOf (bodyOf Try.prog 14) [1, 1, 0, 1, 0])) (kinds := [.ret, .exit 0]) (allow := [(0, .ret), (1, .exit 0)]) (St := mck0_St) (step := mck0_step) (W := [0, 3, 4, 5, 6, 7, 8, 9, 10, 11, 12, 13, 14, 15, 16, 17, 21, 22, 23, 24, 25, 26, 27, 28, 29, 30, 31, 32, 33, 34, 35, 36, 37, 38, 39, 40, 41, 42, 43, 44, 45, 46, 47, 48, 49, 50, 51, 52, 53, 54, 55]) (As := []) (ks := [0]) (dd := []) (nx := 1014) (n := 100000) (g := mck0_g) (cond := mck0_cond) (fuel := (fun u v => runF (mck0_step u) v)) (read := mck0_read) (by kernel_rfl) (seA_S59_ok) (L0_ok _) 7 ⟨Try.f14, by kernel_rfl, by kernel_rfl⟩ (by kernel_rfl) (by kernel_rfl) (by kernel_rfl) mck0_step_eq mck0_hg mck0_read_ok
abbrev mck1_U : Type := (Ty.list (.prod (.int .i64) (.prod (.int .i64) (.int .i64)))).den × Int × (Ty.list (.prod (.int .i64) (.prod (.int .i64) (.int .i64)))).den × (Ty.list (.prod (.int .i64) (.prod (.int .i64) (.int .i64)))).den
abbrev mck1_V : Type := Int × Int
noncomputable def mck1_St (u : mck1_U) (v : mck1_V) : Stt := ⟨[.one .junk, .one (.p 0 0), .one (.v false (.int .i64 v.1)), .one .junk, .one .junk, .one .junk, .one .junk, .one .junk, .one .junk, .one .junk, .one .junk, .one .junk, .one .junk, .one .junk, .one .junk, .one .junk, .one .junk, .one .junk, .one .junk, .one .junk, .one .junk, .one .junk, .one .junk, .one .junk, .one .junk, .one .junk, .one .junk, .one .junk, .one .junk, .one (.d false false (.prod (.int .i64) (.prod (.int .i64) (.int .i64))) u.1), .one (.v false (.int .i64 u.2.1)), .one (.v false (.int .i64 v.2)), .one .junk, .one .junk, .one .junk, .one .junk, .one .junk, .one .junk, .one .junk, .one .junk, .one .junk, .one .junk, .one .junk, .one .junk, .one .junk, .one .junk, .one .junk, .one .junk, .one .junk, .one .junk, .one .junk, .one .junk, .one .junk, .one .junk, .one .junk, .one .junk], [(0, .cells [.d false false (.prod (.int .i64) (.prod (.int .i64) (.int .i64))) u.2.2.1, .d false false (.prod (.int .i64) (.prod (.int .i64) (.int .i64))) u.2.2.2])], 2018⟩
noncomputable def mck1_step (u : mck1_U) (v : mck1_V) : Tr (mck1_V ⊕ (Nat × mck1_V)) :=
  match u, v with
  | (q1, q2, q4, _), (q0, q3) => .br (decide (q3 < q2)) (.br (decide ((0 : Int) ≤ q3) && decide (q3 < (↑(List.length q1) : Int))) (.br (bif decide (Prod.fst (el_iii q1 q3) < (0 : Int)) then true else decide (Prod.fst (el_iii q1 q3) ≥ (↑(List.length q4) : Int))) (.ret (.inr (0, (1, q3)))) (.br (bif decide (Prod.fst (Prod.snd (el_iii q1 q3)) < (0 : Int)) then true else decide (Prod.fst (Prod.snd (el_iii q1 q3)) ≥ (↑(List.length q4) : Int))) (.ret (.inr (0, (1, q3)))) (.br (bif decide (Prod.snd (Prod.snd (el_iii q1 q3)) < (0 : Int)) then true else decide (Prod.snd (Prod.snd (el_iii q1 q3)) ≥ (↑(List.length q4) : Int))) (.ret (.inr (0, (1, q3)))) (.ret (.inl (q0, IntKind.wrap IntKind.i64 (q3 + (1 : Int)))))))) (.bad 29)) (.ret (.inr (1, (q0, q3))))
set_option maxRecDepth 100000 in
set_option maxHeartbeats 4000000 in
theorem mck1_step_eq : ∀ (u : mck1_U) (v : mck1_V), (evalC Try.prog (evalB Try.prog seA_S59 (opens []) seB_L51 7).1 (evalB Try.prog seA_S59 (opens []) seB_L51 7).2 (opens []) (seB_L51 14) 100000 (0 :: [0, 1, 0, 1, 1, 1]) (loopOf (bodyOf Try.prog 14) [1, 1, 1, 0, 1, 0]) (mck1_St u v) []).bind (finF [0, 3, 4, 5, 6, 7, 8, 9, 10, 11, 12, 13, 14, 15, 16, 17, 18, 19, 20, 21, 22, 23, 24, 25, 26, 27, 28, 32, 33, 34, 35, 36, 37, 38, 39, 40, 41, 42, 43, 44, 45, 46, 47, 48, 49, 50, 51, 52, 53, 54, 55] [] [0] [] 2018) = (mck1_step u v).bind (outA (mck1_St u) [.ret, .exit 2]) := by
  rintro ⟨q1, q2, q4, q5⟩ ⟨q0, q3⟩
  kernel_rfl
noncomputable def mck1_rd (b : Bool) (o1 : Option AV) (o2 : Option AV) (o29 : Option AV) (o30 : Option AV) (o31 : Option AV) (own : Own) : Option (mck1_U × mck1_V) := zrT b <| zrO o1 fun za1 => zrA1 za1 fun zc2 => zrP 0 0 zc2 <| zrO o2 fun za3 => zrA1 za3 fun zc4 => zrI .i64 zc4 fun q0 => zrO o29 fun za5 => zrA1 za5 fun zc6 => zrD (.prod (.int .i64) (.prod (.int .i64) (.int .i64))) zc6 fun q1 => zrO o30 fun za7 => zrA1 za7 fun zc8 => zrI .i64 zc8 fun q2 => zrO o31 fun za9 => zrA1 za9 fun zc10 => zrI .i64 zc10 fun q3 => zrL own fun zq11 zw12 => zrKey 0 zq11 fun zk13 => zrC zk13 fun zl14 => zrL zl14 fun zc15 zr16 => zrD (.prod (.int .i64) (.prod (.int .i64) (.int .i64))) zc15 fun q4 => zrL zr16 fun zc17 zr18 => zrD (.prod (.int .i64) (.prod (.int .i64) (.int .i64))) zc17 fun q5 => zrN zr18 <| zrN zw12 <| some ((q1, q2, q4, q5), (q0, q3))
noncomputable def mck1_can (st : Stt) : Stt := canA [0, 3, 4, 5, 6, 7, 8, 9, 10, 11, 12, 13, 14, 15, 16, 17, 18, 19, 20, 21, 22, 23, 24, 25, 26, 27, 28, 32, 33, 34, 35, 36, 37, 38, 39, 40, 41, 42, 43, 44, 45, 46, 47, 48, 49, 50, 51, 52, 53, 54, 55] [] [0] [] 2018 st
noncomputable def mck1_cok (st : Stt) : Bool := canAok [0, 3, 4, 5, 6, 7, 8, 9, 10, 11, 12, 13, 14, 15, 16, 17, 18, 19, 20, 21, 22, 23, 24, 25, 26, 27, 28, 32, 33, 34, 35, 36, 37, 38, 39, 40, 41, 42, 43, 44, 45, 46, 47, 48, 49, 50, 51, 52, 53, 54, 55] [] [0] [] 2018 st
noncomputable def mck1_read (st : Stt) : Option (mck1_U × mck1_V) := mck1_rd (mck1_cok st && (staysA [] [0] st.own && juAll [0, 3, 4, 5, 6, 7, 8, 9, 10, 11, 12, 13, 14, 15, 16, 17, 18, 19, 20, 21, 22, 23, 24, 25, 26, 27, 28, 32, 33, 34, 35, 36, 37, 38, 39, 40, 41, 42, 43, 44, 45, 46, 47, 48, 49, 50, 51, 52, 53, 54, 55] (mck1_can st).tm 56)) (mck1_can st).tm[1]? (mck1_can st).tm[2]? (mck1_can st).tm[29]? (mck1_can st).tm[30]? (mck1_can st).tm[31]? (mck1_can st).own
set_option maxRecDepth 100000 in
set_option maxHeartbeats 4000000 in
theorem mck1_rd_ok {b : Bool} {tm : List AV} {own : Own} {u : mck1_U} {v : mck1_V} (hj : b = true → juAll [0, 3, 4, 5, 6, 7, 8, 9, 10, 11, 12, 13, 14, 15, 16, 17, 18, 19, 20, 21, 22, 23, 24, 25, 26, 27, 28, 32, 33, 34, 35, 36, 37, 38, 39, 40, 41, 42, 43, 44, 45, 46, 47, 48, 49, 50, 51, 52, 53, 54, 55] tm 56 = true) (h : mck1_rd b tm[1]? tm[2]? tm[29]? tm[30]? tm[31]? own = some (u, v)) : b = true ∧ tm = (mck1_St u v).tm ∧ own = (mck1_St u v).own := by
  unfold mck1_rd at h
  obtain ⟨rfl, h0⟩ := zrT_some h
  obtain ⟨za1, e1, h1⟩ := zrO_some h0
  obtain ⟨zc2, rfl, h2⟩ := zrA1_some h1
  obtain ⟨rfl, h3⟩ := zrP_some h2
  obtain ⟨za3, e2, h4⟩ := zrO_some h3
  obtain ⟨zc4, rfl, h5⟩ := zrA1_some h4
  obtain ⟨q0, rfl, h6⟩ := zrI_some h5
  obtain ⟨za5, e29, h7⟩ := zrO_some h6
  obtain ⟨zc6, rfl, h8⟩ := zrA1_some h7
  obtain ⟨q1, rfl, h9⟩ := zrD_some h8
  obtain ⟨za7, e30, h10⟩ := zrO_some h9
  obtain ⟨zc8, rfl, h11⟩ := zrA1_some h10
  obtain ⟨q2, rfl, h12⟩ := zrI_some h11
  obtain ⟨za9, e31, h13⟩ := zrO_some h12
  obtain ⟨zc10, rfl, h14⟩ := zrA1_some h13
  obtain ⟨q3, rfl, h15⟩ := zrI_some h14
  obtain ⟨zq11, zw12, rfl, h16⟩ := zrL_some h15
  obtain ⟨zk13, rfl, h17⟩ := zrKey_some h16
  obtain ⟨zl14, rfl, h18⟩ := zrC_some h17
  obtain ⟨zc15, zr16, rfl, h19⟩ := zrL_some h18
  obtain ⟨q4, rfl, h20⟩ := zrD_some h19
  obtain ⟨zc17, zr18, rfl, h21⟩ := zrL_some h20
  obtain ⟨q5, rfl, h22⟩ := zrD_some h21
  obtain ⟨rfl, h23⟩ := zrN_some h22
  obtain ⟨rfl, h24⟩ := zrN_some h23
  have h := Option.some.inj h24
  have hu := congrArg Prod.fst h
  have hv := congrArg Prod.snd h
  dsimp only at hu hv
  subst hu
  subst hv
  exact ⟨rfl, (tm_fill (hj rfl) (Lv := [(1, .one (.p 0 0)), (2, .one (.v false (.int .i64 q0))), (29, .one (.d false false (.prod (.int .i64) (.prod (.int .i64) (.int .i64))) q1)), (30, .one (.v false (.int .i64 q2))), (31, .one (.v false (.int .i64 q3)))]) (by kernel_rfl) ⟨e1, e2, e29, e30, e31, trivial⟩).trans (by kernel_rfl), rfl⟩
theorem mck1_read_ok (st : Stt) (u : mck1_U) (v : mck1_V) (h : mck1_read st = some (u, v)) : mck1_cok st = true ∧ staysA [] [0] st.own = true ∧ mck1_can st = mck1_St u v := by
  obtain ⟨h1, h2, h3⟩ := mck1_rd_ok (fun hb => by rw [Bool.and_eq_true, Bool.and_eq_true] at hb; exact hb.2.2) h
  rw [Bool.and_eq_true, Bool.and_eq_true] at h1
  refine ⟨h1.1, h1.2.1, ?_⟩
  have e : mck1_can st = ⟨(mck1_can st).tm, (mck1_can st).own, 2018⟩ := by kernel_rfl
  rw [e, h2, h3]
  rfl
noncomputable def mck1_cond (u : mck1_U) (v : mck1_V) : Bool := runC (mck1_step u) v
noncomputable def mck1_g (u : mck1_U) (v : mck1_V) : Nat × mck1_V := runG (mck1_step u) v
theorem mck1_hg : ∀ (u : mck1_U) (v : mck1_V), mck1_cond u v = true → loopN (mck1_step u) ((fun u v => runF (mck1_step u) v) u v) v = some (mck1_g u v) := by
  exact fun u v h => run_hg h
noncomputable def mck1_m (st : Stt) : Option (Tr (Ex × Stt)) := sumM mck1_read mck1_cond mck1_St mck1_g [(0, .ret), (1, .exit 2)] st
noncomputable def seB_L52 : FuncId → Loops := addL 14 [0, 1, 0, 1, 1, 1] mck1_m seB_L51
set_option maxRecDepth 100000 in
set_option maxHeartbeats 4000000 in
theorem seB_L52_ok : LoopsOK Try.prog seB_L52 :=
  loop_sumF (body := (bodyOf Try.prog 14)) (c := (loopOf (bodyOf Try.prog 14) [1, 1, 1, 0, 1, 0])) (kinds := [.ret, .exit 2]) (allow := [(0, .ret), (1, .exit 2)]) (St := mck1_St) (step := mck1_step) (W := [0, 3, 4, 5, 6, 7, 8, 9, 10, 11, 12, 13, 14, 15, 16, 17, 18, 19, 20, 21, 22, 23, 24, 25, 26, 27, 28, 32, 33, 34, 35, 36, 37, 38, 39, 40, 41, 42, 43, 44, 45, 46, 47, 48, 49, 50, 51, 52, 53, 54, 55]) (As := []) (ks := [0]) (dd := []) (nx := 2018) (n := 100000) (g := mck1_g) (cond := mck1_cond) (fuel := (fun u v => runF (mck1_step u) v)) (read := mck1_read) (by kernel_rfl) (seA_S59_ok) (seB_L51_ok) 7 ⟨Try.f14, by kernel_rfl, by kernel_rfl⟩ (by kernel_rfl) (by kernel_rfl) (by kernel_rfl) mck1_step_eq mck1_hg mck1_read_ok
abbrev rck0_U : Type := (Ty.list (.prod (.int .i64) (.prod (.int .i64) (.int .i64)))).den × Int × (Ty.list (.prod (.int .i64) (.prod (.int .i64) (.int .i64)))).den × (Ty.list (.prod (.int .i64) (.prod (.int .i64) (.int .i64)))).den
abbrev rck0_V : Type := Int × Int
noncomputable def rck0_St (u : rck0_U) (v : rck0_V) : Stt := ⟨[.one .junk, .one (.p 0 0), .one (.v false (.int .i64 v.1)), .one .junk, .one .junk, .one .junk, .one .junk, .one .junk, .one .junk, .one .junk, .one .junk, .one .junk, .one .junk, .one .junk, .one .junk, .one .junk, .one .junk, .one .junk, .one .junk, .one (.d false false (.prod (.int .i64) (.prod (.int .i64) (.int .i64))) u.1), .one (.v false (.int .i64 u.2.1)), .one (.v false (.int .i64 v.2)), .one .junk, .one .junk, .one .junk, .one .junk, .one .junk, .one .junk, .one .junk, .one .junk, .one .junk, .one .junk, .one .junk, .one .junk, .one .junk, .one .junk, .one .junk, .one .junk, .one .junk, .one .junk, .one .junk, .one .junk, .one .junk, .one .junk, .one .junk, .one .junk, .one .junk, .one .junk, .one .junk, .one .junk, .one .junk, .one .junk, .one .junk, .one .junk, .one .junk, .one .junk, .one .junk, .one .junk, .one .junk, .one .junk, .one .junk, .one .junk, .one .junk, .one .junk, .one .junk, .one .junk, .one .junk, .one .junk, .one .junk, .one .junk, .one .junk], [(0, .cells [.d false false (.prod (.int .i64) (.prod (.int .i64) (.int .i64))) u.2.2.1, .d false false (.prod (.int .i64) (.prod (.int .i64) (.int .i64))) u.2.2.2])], 1016⟩
noncomputable def rck0_step (u : rck0_U) (v : rck0_V) : Tr (rck0_V ⊕ (Nat × rck0_V)) :=
  match u, v with
  | (q1, q2, _, _), (q0, q3) => .br (decide (q3 < q2)) (.br (decide ((0 : Int) ≤ q3) && decide (q3 < (↑(List.length q1) : Int))) (.br (!vOk (Prod.fst (el_iii q1 q3)) (Prod.fst (Prod.snd (el_iii q1 q3))) (Prod.snd (Prod.snd (el_iii q1 q3)))) (.ret (.inr (0, (8, q3)))) (.ret (.inl (q0, IntKind.wrap IntKind.i64 (q3 + (1 : Int)))))) (.bad 29)) (.ret (.inr (1, (q0, q3))))
set_option maxRecDepth 100000 in
set_option maxHeartbeats 4000000 in
theorem rck0_step_eq : ∀ (u : rck0_U) (v : rck0_V), (evalC Try.prog (evalB Try.prog seA_S59 (opens []) seB_L52 7).1 (evalB Try.prog seA_S59 (opens []) seB_L52 7).2 (opens []) (seB_L52 28) 100000 (0 :: [0, 1, 0, 1, 1]) (loopOf (bodyOf Try.prog 28) [1, 1, 0, 1, 0]) (rck0_St u v) []).bind (finF [0, 3, 4, 5, 6, 7, 8, 9, 10, 11, 12, 13, 14, 15, 16, 17, 18, 22, 23, 24, 25, 26, 27, 28, 29, 30, 31, 32, 33, 34, 35, 36, 37, 38, 39, 40, 41, 42, 43, 44, 45, 46, 47, 48, 49, 50, 51, 52, 53, 54, 55, 56, 57, 58, 59, 60, 61, 62, 63, 64, 65, 66, 67, 68, 69, 70] [] [0] [] 1016) = (rck0_step u v).bind (outA (rck0_St u) [.ret, .exit 0]) := by
  rintro ⟨q1, q2, q4, q5⟩ ⟨q0, q3⟩
  kernel_rfl
noncomputable def rck0_rd (b : Bool) (o1 : Option AV) (o2 : Option AV) (o19 : Option AV) (o20 : Option AV) (o21 : Option AV) (own : Own) : Option (rck0_U × rck0_V) := zrT b <| zrO o1 fun za1 => zrA1 za1 fun zc2 => zrP 0 0 zc2 <| zrO o2 fun za3 => zrA1 za3 fun zc4 => zrI .i64 zc4 fun q0 => zrO o19 fun za5 => zrA1 za5 fun zc6 => zrD (.prod (.int .i64) (.prod (.int .i64) (.int .i64))) zc6 fun q1 => zrO o20 fun za7 => zrA1 za7 fun zc8 => zrI .i64 zc8 fun q2 => zrO o21 fun za9 => zrA1 za9 fun zc10 => zrI .i64 zc10 fun q3 => zrL own fun zq11 zw12 => zrKey 0 zq11 fun zk13 => zrC zk13 fun zl14 => zrL zl14 fun zc15 zr16 => zrD (.prod (.int .i64) (.prod (.int .i64) (.int .i64))) zc15 fun q4 => zrL zr16 fun zc17 zr18 => zrD (.prod (.int .i64) (.prod (.int .i64) (.int .i64))) zc17 fun q5 => zrN zr18 <| zrN zw12 <| some ((q1, q2, q4, q5), (q0, q3))
noncomputable def rck0_can (st : Stt) : Stt := canA [0, 3, 4, 5, 6, 7, 8, 9, 10, 11, 12, 13, 14, 15, 16, 17, 18, 22, 23, 24, 25, 26, 27, 28, 29, 30, 31, 32, 33, 34, 35, 36, 37, 38, 39, 40, 41, 42, 43, 44, 45, 46, 47, 48, 49, 50, 51, 52, 53, 54, 55, 56, 57, 58, 59, 60, 61, 62, 63, 64, 65, 66, 67, 68, 69, 70] [] [0] [] 1016 st
noncomputable def rck0_cok (st : Stt) : Bool := canAok [0, 3, 4, 5, 6, 7, 8, 9, 10, 11, 12, 13, 14, 15, 16, 17, 18, 22, 23, 24, 25, 26, 27, 28, 29, 30, 31, 32, 33, 34, 35, 36, 37, 38, 39, 40, 41, 42, 43, 44, 45, 46, 47, 48, 49, 50, 51, 52, 53, 54, 55, 56, 57, 58, 59, 60, 61, 62, 63, 64, 65, 66, 67, 68, 69, 70] [] [0] [] 1016 st
noncomputable def rck0_read (st : Stt) : Option (rck0_U × rck0_V) := rck0_rd (rck0_cok st && (staysA [] [0] st.own && juAll [0, 3, 4, 5, 6, 7, 8, 9, 10, 11, 12, 13, 14, 15, 16, 17, 18, 22, 23, 24, 25, 26, 27, 28, 29, 30, 31, 32, 33, 34, 35, 36, 37, 38, 39, 40, 41, 42, 43, 44, 45, 46, 47, 48, 49, 50, 51, 52, 53, 54, 55, 56, 57, 58, 59, 60, 61, 62, 63, 64, 65, 66, 67, 68, 69, 70] (rck0_can st).tm 71)) (rck0_can st).tm[1]? (rck0_can st).tm[2]? (rck0_can st).tm[19]? (rck0_can st).tm[20]? (rck0_can st).tm[21]? (rck0_can st).own
set_option maxRecDepth 100000 in
set_option maxHeartbeats 4000000 in
theorem rck0_rd_ok {b : Bool} {tm : List AV} {own : Own} {u : rck0_U} {v : rck0_V} (hj : b = true → juAll [0, 3, 4, 5, 6, 7, 8, 9, 10, 11, 12, 13, 14, 15, 16, 17, 18, 22, 23, 24, 25, 26, 27, 28, 29, 30, 31, 32, 33, 34, 35, 36, 37, 38, 39, 40, 41, 42, 43, 44, 45, 46, 47, 48, 49, 50, 51, 52, 53, 54, 55, 56, 57, 58, 59, 60, 61, 62, 63, 64, 65, 66, 67, 68, 69, 70] tm 71 = true) (h : rck0_rd b tm[1]? tm[2]? tm[19]? tm[20]? tm[21]? own = some (u, v)) : b = true ∧ tm = (rck0_St u v).tm ∧ own = (rck0_St u v).own := by
  unfold rck0_rd at h
  obtain ⟨rfl, h0⟩ := zrT_some h
  obtain ⟨za1, e1, h1⟩ := zrO_some h0
  obtain ⟨zc2, rfl, h2⟩ := zrA1_some h1
  obtain ⟨rfl, h3⟩ := zrP_some h2
  obtain ⟨za3, e2, h4⟩ := zrO_some h3
  obtain ⟨zc4, rfl, h5⟩ := zrA1_some h4
  obtain ⟨q0, rfl, h6⟩ := zrI_some h5
  obtain ⟨za5, e19, h7⟩ := zrO_some h6
  obtain ⟨zc6, rfl, h8⟩ := zrA1_some h7
  obtain ⟨q1, rfl, h9⟩ := zrD_some h8
  obtain ⟨za7, e20, h10⟩ := zrO_some h9
  obtain ⟨zc8, rfl, h11⟩ := zrA1_some h10
  obtain ⟨q2, rfl, h12⟩ := zrI_some h11
  obtain ⟨za9, e21, h13⟩ := zrO_some h12
  obtain ⟨zc10, rfl, h14⟩ := zrA1_some h13
  obtain ⟨q3, rfl, h15⟩ := zrI_some h14
  obtain ⟨zq11, zw12, rfl, h16⟩ := zrL_some h15
  obtain ⟨zk13, rfl, h17⟩ := zrKey_some h16
  obtain ⟨zl14, rfl, h18⟩ := zrC_some h17
  obtain ⟨zc15, zr16, rfl, h19⟩ := zrL_some h18
  obtain ⟨q4, rfl, h20⟩ := zrD_some h19
  obtain ⟨zc17, zr18, rfl, h21⟩ := zrL_some h20
  obtain ⟨q5, rfl, h22⟩ := zrD_some h21
  obtain ⟨rfl, h23⟩ := zrN_some h22
  obtain ⟨rfl, h24⟩ := zrN_some h23
  have h := Option.some.inj h24
  have hu := congrArg Prod.fst h
  have hv := congrArg Prod.snd h
  dsimp only at hu hv
  subst hu
  subst hv
  exact ⟨rfl, (tm_fill (hj rfl) (Lv := [(1, .one (.p 0 0)), (2, .one (.v false (.int .i64 q0))), (19, .one (.d false false (.prod (.int .i64) (.prod (.int .i64) (.int .i64))) q1)), (20, .one (.v false (.int .i64 q2))), (21, .one (.v false (.int .i64 q3)))]) (by kernel_rfl) ⟨e1, e2, e19, e20, e21, trivial⟩).trans (by kernel_rfl), rfl⟩
theorem rck0_read_ok (st : Stt) (u : rck0_U) (v : rck0_V) (h : rck0_read st = some (u, v)) : rck0_cok st = true ∧ staysA [] [0] st.own = true ∧ rck0_can st = rck0_St u v := by
  obtain ⟨h1, h2, h3⟩ := rck0_rd_ok (fun hb => by rw [Bool.and_eq_true, Bool.and_eq_true] at hb; exact hb.2.2) h
  rw [Bool.and_eq_true, Bool.and_eq_true] at h1
  refine ⟨h1.1, h1.2.1, ?_⟩
  have e : rck0_can st = ⟨(rck0_can st).tm, (rck0_can st).own, 1016⟩ := by kernel_rfl
  rw [e, h2, h3]
  rfl
noncomputable def rck0_cond (u : rck0_U) (v : rck0_V) : Bool := runC (rck0_step u) v
noncomputable def rck0_g (u : rck0_U) (v : rck0_V) : Nat × rck0_V := runG (rck0_step u) v
theorem rck0_hg : ∀ (u : rck0_U) (v : rck0_V), rck0_cond u v = true → loopN (rck0_step u) ((fun u v => runF (rck0_step u) v) u v) v = some (rck0_g u v) := by
  exact fun u v h => run_hg h
noncomputable def rck0_m (st : Stt) : Option (Tr (Ex × Stt)) := sumM rck0_read rck0_cond rck0_St rck0_g [(0, .ret), (1, .exit 0)] st
noncomputable def seB_L53 : FuncId → Loops := addL 28 [0, 1, 0, 1, 1] rck0_m seB_L52
set_option maxRecDepth 100000 in
set_option maxHeartbeats 4000000 in
theorem seB_L53_ok : LoopsOK Try.prog seB_L53 :=
  loop_sumF (body := (bodyOf Try.prog 28)) (c := (loopOf (bodyOf Try.prog 28) [1, 1, 0, 1, 0])) (kinds := [.ret, .exit 0]) (allow := [(0, .ret), (1, .exit 0)]) (St := rck0_St) (step := rck0_step) (W := [0, 3, 4, 5, 6, 7, 8, 9, 10, 11, 12, 13, 14, 15, 16, 17, 18, 22, 23, 24, 25, 26, 27, 28, 29, 30, 31, 32, 33, 34, 35, 36, 37, 38, 39, 40, 41, 42, 43, 44, 45, 46, 47, 48, 49, 50, 51, 52, 53, 54, 55, 56, 57, 58, 59, 60, 61, 62, 63, 64, 65, 66, 67, 68, 69, 70]) (As := []) (ks := [0]) (dd := []) (nx := 1016) (n := 100000) (g := rck0_g) (cond := rck0_cond) (fuel := (fun u v => runF (rck0_step u) v)) (read := rck0_read) (by kernel_rfl) (seA_S59_ok) (seB_L52_ok) 7 ⟨Try.f28, by kernel_rfl, by kernel_rfl⟩ (by kernel_rfl) (by kernel_rfl) (by kernel_rfl) rck0_step_eq rck0_hg rck0_read_ok
abbrev rck1_U : Type := Int × (Ty.list (.prod (.int .i64) (.prod (.int .i64) (.int .i64)))).den × Int
abbrev rck1_V : Type := Int × Int
noncomputable def rck1_St (u : rck1_U) (v : rck1_V) : Stt := ⟨[.one .junk, .one .junk, .one (.v false (.int .i64 v.1)), .one .junk, .one .junk, .one (.v false (.int .i64 u.1)), .one .junk, .one .junk, .one .junk, .one .junk, .one .junk, .one .junk, .one .junk, .one .junk, .one .junk, .one .junk, .one .junk, .one .junk, .one .junk, .one .junk, .one .junk, .one .junk, .one .junk, .one .junk, .one .junk, .one .junk, .one .junk, .one .junk, .one .junk, .one .junk, .one .junk, .one .junk, .one .junk, .one (.d false false (.prod (.int .i64) (.prod (.int .i64) (.int .i64))) u.2.1), .one (.v false (.int .i64 u.2.2)), .one (.v false (.int .i64 v.2)), .one .junk, .one .junk, .one .junk, .one .junk, .one .junk, .one .junk, .one .junk, .one .junk, .one .junk, .one .junk, .one .junk, .one .junk, .one .junk, .one .junk, .one .junk, .one .junk, .one .junk, .one .junk, .one .junk, .one .junk, .one .junk, .one .junk, .one .junk, .one .junk, .one .junk, .one .junk, .one .junk, .one .junk, .one .junk, .one .junk, .one .junk, .one .junk, .one .junk, .one .junk, .one .junk], [(0, .dead)], 2024⟩
noncomputable def rck1_step (u : rck1_U) (v : rck1_V) : Tr (rck1_V ⊕ (Nat × rck1_V)) :=
  match u, v with
  | (q1, q2, q3), (q0, q4) => .br (decide (q4 < q3)) (.br (decide ((0 : Int) ≤ q4) && decide (q4 < (↑(List.length q2) : Int))) (.br (bif bif bif bif bif decide (Prod.fst (el_iii q2 q4) < (0 : Int)) then true else decide (Prod.fst (el_iii q2 q4) ≥ q1) then true else decide (Prod.fst (Prod.snd (el_iii q2 q4)) < (0 : Int)) then true else decide (Prod.fst (Prod.snd (el_iii q2 q4)) ≥ q1) then true else decide (Prod.snd (Prod.snd (el_iii q2 q4)) < (0 : Int)) then true else decide (Prod.snd (Prod.snd (el_iii q2 q4)) ≥ q1)) (.ret (.inr (0, (1, q4)))) (.ret (.inl (q0, IntKind.wrap IntKind.i64 (q4 + (1 : Int)))))) (.bad 29)) (.ret (.inr (1, (q0, q4))))
set_option maxRecDepth 100000 in
set_option maxHeartbeats 4000000 in
theorem rck1_step_eq : ∀ (u : rck1_U) (v : rck1_V), (evalC Try.prog (evalB Try.prog seA_S59 (opens []) seB_L53 7).1 (evalB Try.prog seA_S59 (opens []) seB_L53 7).2 (opens []) (seB_L53 28) 100000 (0 :: [0, 1, 0, 1, 1, 1, 1]) (loopOf (bodyOf Try.prog 28) [1, 1, 1, 1, 0, 1, 0]) (rck1_St u v) []).bind (finF [0, 1, 3, 4, 6, 7, 8, 9, 10, 11, 12, 13, 14, 15, 16, 17, 18, 19, 20, 21, 22, 23, 24, 25, 26, 27, 28, 29, 30, 31, 32, 36, 37, 38, 39, 40, 41, 42, 43, 44, 45, 46, 47, 48, 49, 50, 51, 52, 53, 54, 55, 56, 57, 58, 59, 60, 61, 62, 63, 64, 65, 66, 67, 68, 69, 70] [] [0] [0] 2024) = (rck1_step u v).bind (outA (rck1_St u) [.ret, .exit 2]) := by
  rintro ⟨q1, q2, q3⟩ ⟨q0, q4⟩
  kernel_rfl
noncomputable def rck1_rd (b : Bool) (o2 : Option AV) (o5 : Option AV) (o33 : Option AV) (o34 : Option AV) (o35 : Option AV) (own : Own) : Option (rck1_U × rck1_V) := zrT b <| zrO o2 fun za1 => zrA1 za1 fun zc2 => zrI .i64 zc2 fun q0 => zrO o5 fun za3 => zrA1 za3 fun zc4 => zrI .i64 zc4 fun q1 => zrO o33 fun za5 => zrA1 za5 fun zc6 => zrD (.prod (.int .i64) (.prod (.int .i64) (.int .i64))) zc6 fun q2 => zrO o34 fun za7 => zrA1 za7 fun zc8 => zrI .i64 zc8 fun q3 => zrO o35 fun za9 => zrA1 za9 fun zc10 => zrI .i64 zc10 fun q4 => zrL own fun zq11 zw12 => zrKey 0 zq11 fun zk13 => zrX zk13 <| zrN zw12 <| some ((q1, q2, q3), (q0, q4))
noncomputable def rck1_can (st : Stt) : Stt := canA [0, 1, 3, 4, 6, 7, 8, 9, 10, 11, 12, 13, 14, 15, 16, 17, 18, 19, 20, 21, 22, 23, 24, 25, 26, 27, 28, 29, 30, 31, 32, 36, 37, 38, 39, 40, 41, 42, 43, 44, 45, 46, 47, 48, 49, 50, 51, 52, 53, 54, 55, 56, 57, 58, 59, 60, 61, 62, 63, 64, 65, 66, 67, 68, 69, 70] [] [0] [0] 2024 st
noncomputable def rck1_cok (st : Stt) : Bool := canAok [0, 1, 3, 4, 6, 7, 8, 9, 10, 11, 12, 13, 14, 15, 16, 17, 18, 19, 20, 21, 22, 23, 24, 25, 26, 27, 28, 29, 30, 31, 32, 36, 37, 38, 39, 40, 41, 42, 43, 44, 45, 46, 47, 48, 49, 50, 51, 52, 53, 54, 55, 56, 57, 58, 59, 60, 61, 62, 63, 64, 65, 66, 67, 68, 69, 70] [] [0] [0] 2024 st
noncomputable def rck1_read (st : Stt) : Option (rck1_U × rck1_V) := rck1_rd (rck1_cok st && (staysA [] [0] st.own && juAll [0, 1, 3, 4, 6, 7, 8, 9, 10, 11, 12, 13, 14, 15, 16, 17, 18, 19, 20, 21, 22, 23, 24, 25, 26, 27, 28, 29, 30, 31, 32, 36, 37, 38, 39, 40, 41, 42, 43, 44, 45, 46, 47, 48, 49, 50, 51, 52, 53, 54, 55, 56, 57, 58, 59, 60, 61, 62, 63, 64, 65, 66, 67, 68, 69, 70] (rck1_can st).tm 71)) (rck1_can st).tm[2]? (rck1_can st).tm[5]? (rck1_can st).tm[33]? (rck1_can st).tm[34]? (rck1_can st).tm[35]? (rck1_can st).own
set_option maxRecDepth 100000 in
set_option maxHeartbeats 4000000 in
theorem rck1_rd_ok {b : Bool} {tm : List AV} {own : Own} {u : rck1_U} {v : rck1_V} (hj : b = true → juAll [0, 1, 3, 4, 6, 7, 8, 9, 10, 11, 12, 13, 14, 15, 16, 17, 18, 19, 20, 21, 22, 23, 24, 25, 26, 27, 28, 29, 30, 31, 32, 36, 37, 38, 39, 40, 41, 42, 43, 44, 45, 46, 47, 48, 49, 50, 51, 52, 53, 54, 55, 56, 57, 58, 59, 60, 61, 62, 63, 64, 65, 66, 67, 68, 69, 70] tm 71 = true) (h : rck1_rd b tm[2]? tm[5]? tm[33]? tm[34]? tm[35]? own = some (u, v)) : b = true ∧ tm = (rck1_St u v).tm ∧ own = (rck1_St u v).own := by
  unfold rck1_rd at h
  obtain ⟨rfl, h0⟩ := zrT_some h
  obtain ⟨za1, e2, h1⟩ := zrO_some h0
  obtain ⟨zc2, rfl, h2⟩ := zrA1_some h1
  obtain ⟨q0, rfl, h3⟩ := zrI_some h2
  obtain ⟨za3, e5, h4⟩ := zrO_some h3
  obtain ⟨zc4, rfl, h5⟩ := zrA1_some h4
  obtain ⟨q1, rfl, h6⟩ := zrI_some h5
  obtain ⟨za5, e33, h7⟩ := zrO_some h6
  obtain ⟨zc6, rfl, h8⟩ := zrA1_some h7
  obtain ⟨q2, rfl, h9⟩ := zrD_some h8
  obtain ⟨za7, e34, h10⟩ := zrO_some h9
  obtain ⟨zc8, rfl, h11⟩ := zrA1_some h10
  obtain ⟨q3, rfl, h12⟩ := zrI_some h11
  obtain ⟨za9, e35, h13⟩ := zrO_some h12
  obtain ⟨zc10, rfl, h14⟩ := zrA1_some h13
  obtain ⟨q4, rfl, h15⟩ := zrI_some h14
  obtain ⟨zq11, zw12, rfl, h16⟩ := zrL_some h15
  obtain ⟨zk13, rfl, h17⟩ := zrKey_some h16
  obtain ⟨rfl, h18⟩ := zrX_some h17
  obtain ⟨rfl, h19⟩ := zrN_some h18
  have h := Option.some.inj h19
  have hu := congrArg Prod.fst h
  have hv := congrArg Prod.snd h
  dsimp only at hu hv
  subst hu
  subst hv
  exact ⟨rfl, (tm_fill (hj rfl) (Lv := [(2, .one (.v false (.int .i64 q0))), (5, .one (.v false (.int .i64 q1))), (33, .one (.d false false (.prod (.int .i64) (.prod (.int .i64) (.int .i64))) q2)), (34, .one (.v false (.int .i64 q3))), (35, .one (.v false (.int .i64 q4)))]) (by kernel_rfl) ⟨e2, e5, e33, e34, e35, trivial⟩).trans (by kernel_rfl), rfl⟩
theorem rck1_read_ok (st : Stt) (u : rck1_U) (v : rck1_V) (h : rck1_read st = some (u, v)) : rck1_cok st = true ∧ staysA [] [0] st.own = true ∧ rck1_can st = rck1_St u v := by
  obtain ⟨h1, h2, h3⟩ := rck1_rd_ok (fun hb => by rw [Bool.and_eq_true, Bool.and_eq_true] at hb; exact hb.2.2) h
  rw [Bool.and_eq_true, Bool.and_eq_true] at h1
  refine ⟨h1.1, h1.2.1, ?_⟩
  have e : rck1_can st = ⟨(rck1_can st).tm, (rck1_can st).own, 2024⟩ := by kernel_rfl
  rw [e, h2, h3]
  rfl
noncomputable def rck1_cond (u : rck1_U) (v : rck1_V) : Bool := runC (rck1_step u) v
noncomputable def rck1_g (u : rck1_U) (v : rck1_V) : Nat × rck1_V := runG (rck1_step u) v
theorem rck1_hg : ∀ (u : rck1_U) (v : rck1_V), rck1_cond u v = true → loopN (rck1_step u) ((fun u v => runF (rck1_step u) v) u v) v = some (rck1_g u v) := by
  exact fun u v h => run_hg h
noncomputable def rck1_m (st : Stt) : Option (Tr (Ex × Stt)) := sumM rck1_read rck1_cond rck1_St rck1_g [(0, .ret), (1, .exit 2)] st
noncomputable def seB_L54 : FuncId → Loops := addL 28 [0, 1, 0, 1, 1, 1, 1] rck1_m seB_L53
set_option maxRecDepth 100000 in
set_option maxHeartbeats 4000000 in
theorem seB_L54_ok : LoopsOK Try.prog seB_L54 :=
  loop_sumF (body := (bodyOf Try.prog 28)) (c := (loopOf (bodyOf Try.prog 28) [1, 1, 1, 1, 0, 1, 0])) (kinds := [.ret, .exit 2]) (allow := [(0, .ret), (1, .exit 2)]) (St := rck1_St) (step := rck1_step) (W := [0, 1, 3, 4, 6, 7, 8, 9, 10, 11, 12, 13, 14, 15, 16, 17, 18, 19, 20, 21, 22, 23, 24, 25, 26, 27, 28, 29, 30, 31, 32, 36, 37, 38, 39, 40, 41, 42, 43, 44, 45, 46, 47, 48, 49, 50, 51, 52, 53, 54, 55, 56, 57, 58, 59, 60, 61, 62, 63, 64, 65, 66, 67, 68, 69, 70]) (As := []) (ks := [0]) (dd := [0]) (nx := 2024) (n := 100000) (g := rck1_g) (cond := rck1_cond) (fuel := (fun u v => runF (rck1_step u) v)) (read := rck1_read) (by kernel_rfl) (seA_S59_ok) (seB_L53_ok) 7 ⟨Try.f28, by kernel_rfl, by kernel_rfl⟩ (by kernel_rfl) (by kernel_rfl) (by kernel_rfl) rck1_step_eq rck1_hg rck1_read_ok
def vGood (V : List (Int × (Int × Int))) : Bool := V.all fun v => vOk v.1 v.2.1 v.2.2
def tOk (n : Int) (t : Int × (Int × Int)) : Bool := decide (0 ≤ t.1 ∧ t.1 < n ∧ 0 ≤ t.2.1 ∧ t.2.1 < n ∧ 0 ≤ t.2.2 ∧ t.2.2 < n)
def tGood (n : Int) (T : List (Int × (Int × Int))) : Bool := T.all (tOk n)
def chk (V T : List (Int × (Int × Int))) : Int := bif decide ((V.length : Int) ≤ 4096) && decide ((T.length : Int) ≤ 4096) then (bif vGood V then (bif tGood V.length T then 0 else 1) else 8) else 2
theorem run_val {V : Type} {step : V → Tr (V ⊕ (Nat × V))} {Inv : V → Prop} {μ : V → Nat} {Q : Nat × V → Prop} (h : ∀ s, Inv s → ∃ x, (step s).val = some x ∧ (match x with | .inl s' => Inv s' ∧ μ s' < μ s | .inr t => Q t)) : ∀ (k : Nat) (v : V), μ v < k → Inv v → runC step v = true ∧ Q (runG step v)
  | 0, _, hk, _ => absurd hk (Nat.not_lt_zero _)
  | k + 1, v, hk, hv => by
    obtain ⟨x, hx, hq⟩ := h v hv
    cases x with
    | inl s =>
      obtain ⟨h1, h2⟩ := run_val h k s (by have := hq.2; omega) hq.1
      obtain ⟨h3, h4⟩ := run_next hx h1
      exact ⟨h3, by rw [h4]; exact h2⟩
    | inr t =>
      obtain ⟨h3, h4⟩ := run_end hx
      exact ⟨h3, by rw [h4]; exact hq⟩
theorem el_get {l : List (Int × (Int × Int))} {i : Nat} (h : i < l.length) : el_iii l (i : Int) = l[i] := by
  show l.getD i _ = l[i]
  rw [List.getD, List.getElem?_eq_getElem h]; rfl
theorem scan_run {α : Type} {l : List α} {p : α → Bool} {step : (Int × Int) → Tr ((Int × Int) ⊕ (Nat × (Int × Int)))} {c e : Int}
    (h : ∀ (i : Nat) (hi : i < l.length), (step (e, (i : Int))).val = some (bif p l[i] then .inl (e, ((i + 1 : Nat) : Int)) else .inr (0, (c, (i : Int))))) (he : (step (e, (l.length : Int))).val = some (.inr (1, (e, (l.length : Int))))) :
    runC step (e, 0) = true ∧ ((l.all p = true ∧ runG step (e, 0) = (1, (e, (l.length : Int)))) ∨ (l.all p = false ∧ ∃ i, runG step (e, 0) = (0, (c, i)))) := by
  refine run_val (step := step) (Inv := fun v => ∃ i : Nat, v = (e, (i : Int)) ∧ i ≤ l.length ∧ ∀ j (hj : j < l.length), j < i → p l[j] = true) (μ := fun v => l.length - v.2.toNat) (Q := fun r => (l.all p = true ∧ r = (1, (e, (l.length : Int)))) ∨ (l.all p = false ∧ ∃ i, r = (0, (c, i)))) ?_ _ _ (Nat.lt_succ_self _) ⟨0, rfl, Nat.zero_le _, fun j _ hj => absurd hj (Nat.not_lt_zero _)⟩
  rintro v ⟨i, rfl, hi, hp⟩
  by_cases hl : i < l.length
  · refine ⟨_, h i hl, ?_⟩
    cases hb : p l[i]
    · refine .inr ⟨?_, _, rfl⟩
      rw [← Bool.not_eq_true, List.all_eq_true]
      intro ha
      have := ha l[i] (List.getElem_mem hl)
      rw [hb] at this; cases this
    · refine ⟨⟨i + 1, rfl, by omega, fun j hj hji => ?_⟩, by show l.length - ((i + 1 : Nat) : Int).toNat < l.length - (i : Int).toNat; omega⟩
      by_cases e2 : j = i
      · subst e2; exact hb
      · exact hp j hj (by omega)
  · have : i = l.length := by omega
    subst this
    refine ⟨_, he, .inl ⟨?_, rfl⟩⟩
    rw [List.all_eq_true]
    intro x hx
    obtain ⟨j, hj, rfl⟩ := List.getElem_of_mem hx
    exact hp j hj hj
theorem tOk_a {n : Int} {t : Int × (Int × Int)} : tOk n t = (!(bif decide (t.1 < 0) then true else decide (t.1 ≥ n)) && (!(bif decide (t.2.1 < 0) then true else decide (t.2.1 ≥ n)) && !(bif decide (t.2.2 < 0) then true else decide (t.2.2 ≥ n)))) := by
  unfold tOk
  rw [Bool.eq_iff_iff]
  simp [Bool.cond_eq_ite]
  omega
theorem tOk_b {n : Int} {t : Int × (Int × Int)} : (bif bif bif bif bif decide (t.1 < (0 : Int)) then true else decide (t.1 ≥ n) then true else decide (t.2.1 < (0 : Int)) then true else decide (t.2.1 ≥ n) then true else decide (t.2.2 < (0 : Int)) then true else decide (t.2.2 ≥ n)) = !tOk n t := by
  rw [tOk_a]
  generalize decide (t.1 < (0 : Int)) = b1
  generalize decide (t.1 ≥ n) = b2
  generalize decide (t.2.1 < (0 : Int)) = b3
  generalize decide (t.2.1 ≥ n) = b4
  generalize decide (t.2.2 < (0 : Int)) = b5
  generalize decide (t.2.2 ≥ n) = b6
  cases b1 <;> cases b2 <;> cases b3 <;> cases b4 <;> cases b5 <;> cases b6 <;> rfl
theorem wi1 {i n : Nat} (h : i < n) (hn : (n : Int) ≤ 4096) : IntKind.wrap IntKind.i64 ((i : Int) + (1 : Int)) = ((i + 1 : Nat) : Int) := by
  rw [wid (by omega) (by omega)]; push_cast; rfl
theorem mck_v {V T : List (Int × (Int × Int))} (hV : (V.length : Int) ≤ 4096) : mck0_cond (V, (V.length : Int), V, T) (0, 0) = true ∧ ((vGood V = true ∧ mck0_g (V, (V.length : Int), V, T) (0, 0) = (1, (0, (V.length : Int)))) ∨ (vGood V = false ∧ ∃ i, mck0_g (V, (V.length : Int), V, T) (0, 0) = (0, (8, i)))) := by
  refine scan_run (step := mck0_step (V, (V.length : Int), V, T)) (fun i hi => ?_) ?_
  · have c1 : decide ((i : Int) < (V.length : Int)) = true := decide_eq_true (by omega)
    have c2 : decide ((0 : Int) ≤ (i : Int)) = true := decide_eq_true (by omega)
    simp only [mck0_step, Tr.val, c1, c2, el_get hi, wi1 hi hV, Bool.and_self, cond_true]
    cases vOk V[i].1 V[i].2.1 V[i].2.2 <;> rfl
  · simp only [mck0_step, Tr.val, Int.lt_irrefl, decide_false, cond_false]
theorem rck_v {V T : List (Int × (Int × Int))} (hV : (V.length : Int) ≤ 4096) : rck0_cond (V, (V.length : Int), V, T) (0, 0) = true ∧ ((vGood V = true ∧ rck0_g (V, (V.length : Int), V, T) (0, 0) = (1, (0, (V.length : Int)))) ∨ (vGood V = false ∧ ∃ i, rck0_g (V, (V.length : Int), V, T) (0, 0) = (0, (8, i)))) := by
  refine scan_run (step := rck0_step (V, (V.length : Int), V, T)) (fun i hi => ?_) ?_
  · have c1 : decide ((i : Int) < (V.length : Int)) = true := decide_eq_true (by omega)
    have c2 : decide ((0 : Int) ≤ (i : Int)) = true := decide_eq_true (by omega)
    simp only [rck0_step, Tr.val, c1, c2, el_get hi, wi1 hi hV, Bool.and_self, cond_true]
    cases vOk V[i].1 V[i].2.1 V[i].2.2 <;> rfl
  · simp only [rck0_step, Tr.val, Int.lt_irrefl, decide_false, cond_false]
theorem mck_t {V T : List (Int × (Int × Int))} (hT : (T.length : Int) ≤ 4096) : mck1_cond (T, (T.length : Int), V, T) (0, 0) = true ∧ ((tGood V.length T = true ∧ mck1_g (T, (T.length : Int), V, T) (0, 0) = (1, (0, (T.length : Int)))) ∨ (tGood V.length T = false ∧ ∃ i, mck1_g (T, (T.length : Int), V, T) (0, 0) = (0, (1, i)))) := by
  refine scan_run (step := mck1_step (T, (T.length : Int), V, T)) (fun i hi => ?_) ?_
  · have c1 : decide ((i : Int) < (T.length : Int)) = true := decide_eq_true (by omega)
    have c2 : decide ((0 : Int) ≤ (i : Int)) = true := decide_eq_true (by omega)
    simp only [mck1_step, Tr.val, c1, c2, el_get hi, wi1 hi hT, Bool.and_self, cond_true, tOk_a]
    generalize (bif decide (T[i].1 < 0) then true else decide (T[i].1 ≥ (V.length : Int))) = b1
    generalize (bif decide (T[i].2.1 < 0) then true else decide (T[i].2.1 ≥ (V.length : Int))) = b2
    generalize (bif decide (T[i].2.2 < 0) then true else decide (T[i].2.2 ≥ (V.length : Int))) = b3
    cases b1 <;> cases b2 <;> cases b3 <;> rfl
  · simp only [mck1_step, Tr.val, Int.lt_irrefl, decide_false, cond_false]
theorem rck_t {V T : List (Int × (Int × Int))} (hT : (T.length : Int) ≤ 4096) : rck1_cond ((V.length : Int), T, (T.length : Int)) (0, 0) = true ∧ ((tGood V.length T = true ∧ rck1_g ((V.length : Int), T, (T.length : Int)) (0, 0) = (1, (0, (T.length : Int)))) ∨ (tGood V.length T = false ∧ ∃ i, rck1_g ((V.length : Int), T, (T.length : Int)) (0, 0) = (0, (1, i)))) := by
  refine scan_run (step := rck1_step ((V.length : Int), T, (T.length : Int))) (fun i hi => ?_) ?_
  · have c1 : decide ((i : Int) < (T.length : Int)) = true := decide_eq_true (by omega)
    have c2 : decide ((0 : Int) ≤ (i : Int)) = true := decide_eq_true (by omega)
    simp only [rck1_step, Tr.val, c1, c2, el_get hi, wi1 hi hT, Bool.and_self, cond_true, tOk_b]
    cases tOk (V.length : Int) T[i] <;> rfl
  · simp only [rck1_step, Tr.val, Int.lt_irrefl, decide_false, cond_false]
set_option maxRecDepth 100000 in
theorem mckc_tree (V : (Ty.list (.prod (.int .i64) (.prod (.int .i64) (.int .i64)))).den) (T : (Ty.list (.prod (.int .i64) (.prod (.int .i64) (.int .i64)))).den) : evalF Try.prog seA_S59 (opens []) seB_L54 9 14 [.ag [.d false false (.prod (.int .i64) (.prod (.int .i64) (.int .i64))) V, .d false false (.prod (.int .i64) (.prod (.int .i64) (.int .i64))) T]] = .br ((bif !bif decide ((↑(List.length V) : Int) ≤ (4096 : Int)) then decide ((↑(List.length T) : Int) ≤ (4096 : Int)) else false then true else ((mck0_cond (V, (↑(List.length V) : Int), V, T) ((0 : Int), (0 : Int))) && (bif Nat.beq (Prod.fst (mck0_g (V, (↑(List.length V) : Int), V, T) ((0 : Int), (0 : Int)))) (0 : Nat) then true else ((Nat.beq (Prod.fst (mck0_g (V, (↑(List.length V) : Int), V, T) ((0 : Int), (0 : Int)))) (1 : Nat)) && ((mck1_cond (T, (↑(List.length T) : Int), V, T) (Prod.fst (Prod.snd (mck0_g (V, (↑(List.length V) : Int), V, T) ((0 : Int), (0 : Int)))), (0 : Int))) && (bif Nat.beq (Prod.fst (mck1_g (T, (↑(List.length T) : Int), V, T) (Prod.fst (Prod.snd (mck0_g (V, (↑(List.length V) : Int), V, T) ((0 : Int), (0 : Int)))), (0 : Int)))) (0 : Nat) then true else (Nat.beq (Prod.fst (mck1_g (T, (↑(List.length T) : Int), V, T) (Prod.fst (Prod.snd (mck0_g (V, (↑(List.length V) : Int), V, T) ((0 : Int), (0 : Int)))), (0 : Int)))) (1 : Nat))))))))) (.ret (.one (.v false (.int .i64 (bif !bif decide ((↑(List.length V) : Int) ≤ (4096 : Int)) then decide ((↑(List.length T) : Int) ≤ (4096 : Int)) else false then (2 : Int) else bif Nat.beq (Prod.fst (mck0_g (V, (↑(List.length V) : Int), V, T) ((0 : Int), (0 : Int)))) (0 : Nat) then Prod.fst (Prod.snd (mck0_g (V, (↑(List.length V) : Int), V, T) ((0 : Int), (0 : Int)))) else bif Nat.beq (Prod.fst (mck1_g (T, (↑(List.length T) : Int), V, T) (Prod.fst (Prod.snd (mck0_g (V, (↑(List.length V) : Int), V, T) ((0 : Int), (0 : Int)))), (0 : Int)))) (0 : Nat) then Prod.fst (Prod.snd (mck1_g (T, (↑(List.length T) : Int), V, T) (Prod.fst (Prod.snd (mck0_g (V, (↑(List.length V) : Int), V, T) ((0 : Int), (0 : Int)))), (0 : Int)))) else (0 : Int)))))) (.bad 116) := by kernel_rfl
set_option maxHeartbeats 4000000 in
theorem mckc_val (V : (Ty.list (.prod (.int .i64) (.prod (.int .i64) (.int .i64)))).den) (T : (Ty.list (.prod (.int .i64) (.prod (.int .i64) (.int .i64)))).den) : (.br ((bif !bif decide ((↑(List.length V) : Int) ≤ (4096 : Int)) then decide ((↑(List.length T) : Int) ≤ (4096 : Int)) else false then true else ((mck0_cond (V, (↑(List.length V) : Int), V, T) ((0 : Int), (0 : Int))) && (bif Nat.beq (Prod.fst (mck0_g (V, (↑(List.length V) : Int), V, T) ((0 : Int), (0 : Int)))) (0 : Nat) then true else ((Nat.beq (Prod.fst (mck0_g (V, (↑(List.length V) : Int), V, T) ((0 : Int), (0 : Int)))) (1 : Nat)) && ((mck1_cond (T, (↑(List.length T) : Int), V, T) (Prod.fst (Prod.snd (mck0_g (V, (↑(List.length V) : Int), V, T) ((0 : Int), (0 : Int)))), (0 : Int))) && (bif Nat.beq (Prod.fst (mck1_g (T, (↑(List.length T) : Int), V, T) (Prod.fst (Prod.snd (mck0_g (V, (↑(List.length V) : Int), V, T) ((0 : Int), (0 : Int)))), (0 : Int)))) (0 : Nat) then true else (Nat.beq (Prod.fst (mck1_g (T, (↑(List.length T) : Int), V, T) (Prod.fst (Prod.snd (mck0_g (V, (↑(List.length V) : Int), V, T) ((0 : Int), (0 : Int)))), (0 : Int)))) (1 : Nat))))))))) (.ret (.one (.v false (.int .i64 (bif !bif decide ((↑(List.length V) : Int) ≤ (4096 : Int)) then decide ((↑(List.length T) : Int) ≤ (4096 : Int)) else false then (2 : Int) else bif Nat.beq (Prod.fst (mck0_g (V, (↑(List.length V) : Int), V, T) ((0 : Int), (0 : Int)))) (0 : Nat) then Prod.fst (Prod.snd (mck0_g (V, (↑(List.length V) : Int), V, T) ((0 : Int), (0 : Int)))) else bif Nat.beq (Prod.fst (mck1_g (T, (↑(List.length T) : Int), V, T) (Prod.fst (Prod.snd (mck0_g (V, (↑(List.length V) : Int), V, T) ((0 : Int), (0 : Int)))), (0 : Int)))) (0 : Nat) then Prod.fst (Prod.snd (mck1_g (T, (↑(List.length T) : Int), V, T) (Prod.fst (Prod.snd (mck0_g (V, (↑(List.length V) : Int), V, T) ((0 : Int), (0 : Int)))), (0 : Int)))) else (0 : Int)))))) (.bad 116) : Tr AV).val = some (.one (.v false (.int .i64 (chk V T)))) := by
  show cond _ _ _ = _
  unfold chk
  by_cases hl : (V.length : Int) ≤ 4096 ∧ (T.length : Int) ≤ 4096
  · obtain ⟨v1, v2⟩ := mck_v (T := T) hl.1
    obtain ⟨t1, t2⟩ := mck_t (V := V) hl.2
    have c1 : decide ((V.length : Int) ≤ 4096) = true := decide_eq_true hl.1
    have c2 : decide ((T.length : Int) ≤ 4096) = true := decide_eq_true hl.2
    have c3 : decide ((V.length : Int) > 4096) = false := decide_eq_false (by omega)
    have c4 : decide ((T.length : Int) > 4096) = false := decide_eq_false (by omega)
    rcases v2 with ⟨g1, g2⟩ | ⟨g1, i, g2⟩
    · rcases t2 with ⟨g3, g4⟩ | ⟨g3, j, g4⟩
      · simp only [c1, c2, c3, c4, v1, g1, g2, t1, g3, g4, cond_true, cond_false, Bool.not_true, Bool.and_self, Bool.true_and, Bool.and_true, Nat.beq, Tr.val]
      · simp only [c1, c2, c3, c4, v1, g1, g2, t1, g3, g4, cond_true, cond_false, Bool.not_true, Bool.and_self, Bool.true_and, Bool.and_true, Nat.beq, Tr.val]
    · simp only [c1, c2, c3, c4, v1, g1, g2, cond_true, cond_false, Bool.not_true, Bool.and_self, Bool.true_and, Bool.and_true, Nat.beq, Tr.val]
  · have c0 : (decide ((V.length : Int) ≤ 4096) && decide ((T.length : Int) ≤ 4096)) = false := by
      rw [← Bool.not_eq_true]; simp; omega
    have c1 : (bif decide ((V.length : Int) ≤ 4096) then decide ((T.length : Int) ≤ 4096) else false) = false := by
      rw [← c0]; cases decide ((V.length : Int) ≤ 4096) <;> rfl
    have c2 : (bif decide ((V.length : Int) > 4096) then true else decide ((T.length : Int) > 4096)) = true := by
      by_cases h : (V.length : Int) > 4096
      · rw [decide_eq_true h]; rfl
      · rw [decide_eq_false h]; exact decide_eq_true (by omega)
    simp only [c0, c1, c2, Bool.not_false, cond_true, cond_false, Tr.val]
noncomputable def mckc_g : List AV → Option (Tr AV)
  | [.ag [.d _ _ (.prod (.int .i64) (.prod (.int .i64) (.int .i64))) V, .d _ _ (.prod (.int .i64) (.prod (.int .i64) (.int .i64))) T]] => some (.ret (.one (.v false (.int .i64 (chk V T)))))
  | _ => none
set_option maxHeartbeats 4000000 in
theorem mckc_ok : FunOK Try.prog 14 mckc_g := by
  refine fun_ok (by kernel_rfl) (seA_S59_ok) (seB_L54_ok) 9 (On := (opens [])) (fun args t h => ?_)
  unfold mckc_g at h
  split at h
  · rename_i _ _ V _ _ T
    simp only [Option.some.injEq] at h
    subst h
    refine ⟨[.ag [.d false false (.prod (.int .i64) (.prod (.int .i64) (.int .i64))) V, .d false false (.prod (.int .i64) (.prod (.int .i64) (.int .i64))) T]], rfl, fun fr w us h => h, fun r hr => ?_⟩
    simp only [Tr.val, Option.some.injEq] at hr
    subst hr
    rw [mckc_tree]
    exact mckc_val V T
  · cases h
noncomputable def seB_S55 : Sums := addS 14 mckc_g seA_S59
theorem seB_S55_ok : SumOK Try.prog seB_S55 := addS_ok (mckc_ok) (seA_S59_ok)
set_option maxRecDepth 100000 in
theorem rckc_tree (V : (Ty.list (.prod (.int .i64) (.prod (.int .i64) (.int .i64)))).den) (T : (Ty.list (.prod (.int .i64) (.prod (.int .i64) (.int .i64)))).den) : evalF Try.prog seB_S55 (opens []) seB_L54 9 28 [.ag [.d false false (.prod (.int .i64) (.prod (.int .i64) (.int .i64))) V, .d false false (.prod (.int .i64) (.prod (.int .i64) (.int .i64))) T]] = .br ((bif bif decide ((↑(List.length V) : Int) > (4096 : Int)) then true else decide ((↑(List.length T) : Int) > (4096 : Int)) then true else ((rck0_cond (V, (↑(List.length V) : Int), V, T) ((0 : Int), (0 : Int))) && (bif Nat.beq (Prod.fst (rck0_g (V, (↑(List.length V) : Int), V, T) ((0 : Int), (0 : Int)))) (0 : Nat) then true else ((Nat.beq (Prod.fst (rck0_g (V, (↑(List.length V) : Int), V, T) ((0 : Int), (0 : Int)))) (1 : Nat)) && ((rck1_cond ((↑(List.length V) : Int), T, (↑(List.length T) : Int)) (Prod.fst (Prod.snd (rck0_g (V, (↑(List.length V) : Int), V, T) ((0 : Int), (0 : Int)))), (0 : Int))) && (bif Nat.beq (Prod.fst (rck1_g ((↑(List.length V) : Int), T, (↑(List.length T) : Int)) (Prod.fst (Prod.snd (rck0_g (V, (↑(List.length V) : Int), V, T) ((0 : Int), (0 : Int)))), (0 : Int)))) (0 : Nat) then true else (Nat.beq (Prod.fst (rck1_g ((↑(List.length V) : Int), T, (↑(List.length T) : Int)) (Prod.fst (Prod.snd (rck0_g (V, (↑(List.length V) : Int), V, T) ((0 : Int), (0 : Int)))), (0 : Int)))) (1 : Nat))))))))) (.ret (.one (.v false (.int .i64 (bif bif decide ((↑(List.length V) : Int) > (4096 : Int)) then true else decide ((↑(List.length T) : Int) > (4096 : Int)) then (2 : Int) else bif Nat.beq (Prod.fst (rck0_g (V, (↑(List.length V) : Int), V, T) ((0 : Int), (0 : Int)))) (0 : Nat) then Prod.fst (Prod.snd (rck0_g (V, (↑(List.length V) : Int), V, T) ((0 : Int), (0 : Int)))) else bif Nat.beq (Prod.fst (rck1_g ((↑(List.length V) : Int), T, (↑(List.length T) : Int)) (Prod.fst (Prod.snd (rck0_g (V, (↑(List.length V) : Int), V, T) ((0 : Int), (0 : Int)))), (0 : Int)))) (0 : Nat) then Prod.fst (Prod.snd (rck1_g ((↑(List.length V) : Int), T, (↑(List.length T) : Int)) (Prod.fst (Prod.snd (rck0_g (V, (↑(List.length V) : Int), V, T) ((0 : Int), (0 : Int)))), (0 : Int)))) else (0 : Int)))))) (.bad 116) := by kernel_rfl
set_option maxHeartbeats 4000000 in
theorem rckc_val (V : (Ty.list (.prod (.int .i64) (.prod (.int .i64) (.int .i64)))).den) (T : (Ty.list (.prod (.int .i64) (.prod (.int .i64) (.int .i64)))).den) : (.br ((bif bif decide ((↑(List.length V) : Int) > (4096 : Int)) then true else decide ((↑(List.length T) : Int) > (4096 : Int)) then true else ((rck0_cond (V, (↑(List.length V) : Int), V, T) ((0 : Int), (0 : Int))) && (bif Nat.beq (Prod.fst (rck0_g (V, (↑(List.length V) : Int), V, T) ((0 : Int), (0 : Int)))) (0 : Nat) then true else ((Nat.beq (Prod.fst (rck0_g (V, (↑(List.length V) : Int), V, T) ((0 : Int), (0 : Int)))) (1 : Nat)) && ((rck1_cond ((↑(List.length V) : Int), T, (↑(List.length T) : Int)) (Prod.fst (Prod.snd (rck0_g (V, (↑(List.length V) : Int), V, T) ((0 : Int), (0 : Int)))), (0 : Int))) && (bif Nat.beq (Prod.fst (rck1_g ((↑(List.length V) : Int), T, (↑(List.length T) : Int)) (Prod.fst (Prod.snd (rck0_g (V, (↑(List.length V) : Int), V, T) ((0 : Int), (0 : Int)))), (0 : Int)))) (0 : Nat) then true else (Nat.beq (Prod.fst (rck1_g ((↑(List.length V) : Int), T, (↑(List.length T) : Int)) (Prod.fst (Prod.snd (rck0_g (V, (↑(List.length V) : Int), V, T) ((0 : Int), (0 : Int)))), (0 : Int)))) (1 : Nat))))))))) (.ret (.one (.v false (.int .i64 (bif bif decide ((↑(List.length V) : Int) > (4096 : Int)) then true else decide ((↑(List.length T) : Int) > (4096 : Int)) then (2 : Int) else bif Nat.beq (Prod.fst (rck0_g (V, (↑(List.length V) : Int), V, T) ((0 : Int), (0 : Int)))) (0 : Nat) then Prod.fst (Prod.snd (rck0_g (V, (↑(List.length V) : Int), V, T) ((0 : Int), (0 : Int)))) else bif Nat.beq (Prod.fst (rck1_g ((↑(List.length V) : Int), T, (↑(List.length T) : Int)) (Prod.fst (Prod.snd (rck0_g (V, (↑(List.length V) : Int), V, T) ((0 : Int), (0 : Int)))), (0 : Int)))) (0 : Nat) then Prod.fst (Prod.snd (rck1_g ((↑(List.length V) : Int), T, (↑(List.length T) : Int)) (Prod.fst (Prod.snd (rck0_g (V, (↑(List.length V) : Int), V, T) ((0 : Int), (0 : Int)))), (0 : Int)))) else (0 : Int)))))) (.bad 116) : Tr AV).val = some (.one (.v false (.int .i64 (chk V T)))) := by
  show cond _ _ _ = _
  unfold chk
  by_cases hl : (V.length : Int) ≤ 4096 ∧ (T.length : Int) ≤ 4096
  · obtain ⟨v1, v2⟩ := rck_v (T := T) hl.1
    obtain ⟨t1, t2⟩ := rck_t (V := V) hl.2
    have c1 : decide ((V.length : Int) ≤ 4096) = true := decide_eq_true hl.1
    have c2 : decide ((T.length : Int) ≤ 4096) = true := decide_eq_true hl.2
    have c3 : decide ((V.length : Int) > 4096) = false := decide_eq_false (by omega)
    have c4 : decide ((T.length : Int) > 4096) = false := decide_eq_false (by omega)
    rcases v2 with ⟨g1, g2⟩ | ⟨g1, i, g2⟩
    · rcases t2 with ⟨g3, g4⟩ | ⟨g3, j, g4⟩
      · simp only [c1, c2, c3, c4, v1, g1, g2, t1, g3, g4, cond_true, cond_false, Bool.not_true, Bool.and_self, Bool.true_and, Bool.and_true, Nat.beq, Tr.val]
      · simp only [c1, c2, c3, c4, v1, g1, g2, t1, g3, g4, cond_true, cond_false, Bool.not_true, Bool.and_self, Bool.true_and, Bool.and_true, Nat.beq, Tr.val]
    · simp only [c1, c2, c3, c4, v1, g1, g2, cond_true, cond_false, Bool.not_true, Bool.and_self, Bool.true_and, Bool.and_true, Nat.beq, Tr.val]
  · have c0 : (decide ((V.length : Int) ≤ 4096) && decide ((T.length : Int) ≤ 4096)) = false := by
      rw [← Bool.not_eq_true]; simp; omega
    have c1 : (bif decide ((V.length : Int) ≤ 4096) then decide ((T.length : Int) ≤ 4096) else false) = false := by
      rw [← c0]; cases decide ((V.length : Int) ≤ 4096) <;> rfl
    have c2 : (bif decide ((V.length : Int) > 4096) then true else decide ((T.length : Int) > 4096)) = true := by
      by_cases h : (V.length : Int) > 4096
      · rw [decide_eq_true h]; rfl
      · rw [decide_eq_false h]; exact decide_eq_true (by omega)
    simp only [c0, c1, c2, Bool.not_false, cond_true, cond_false, Tr.val]
noncomputable def rckc_g : List AV → Option (Tr AV)
  | [.ag [.d _ _ (.prod (.int .i64) (.prod (.int .i64) (.int .i64))) V, .d _ _ (.prod (.int .i64) (.prod (.int .i64) (.int .i64))) T]] => some (.ret (.one (.v false (.int .i64 (chk V T)))))
  | _ => none
set_option maxHeartbeats 4000000 in
theorem rckc_ok : FunOK Try.prog 28 rckc_g := by
  refine fun_ok (by kernel_rfl) (seB_S55_ok) (seB_L54_ok) 9 (On := (opens [])) (fun args t h => ?_)
  unfold rckc_g at h
  split at h
  · rename_i _ _ V _ _ T
    simp only [Option.some.injEq] at h
    subst h
    refine ⟨[.ag [.d false false (.prod (.int .i64) (.prod (.int .i64) (.int .i64))) V, .d false false (.prod (.int .i64) (.prod (.int .i64) (.int .i64))) T]], rfl, fun fr w us h => h, fun r hr => ?_⟩
    simp only [Tr.val, Option.some.injEq] at hr
    subst hr
    rw [rckc_tree]
    exact rckc_val V T
  · cases h
noncomputable def seB_S56 : Sums := addS 28 rckc_g seB_S55
theorem seB_S56_ok : SumOK Try.prog seB_S56 := addS_ok (rckc_ok) (seB_S55_ok)
end Go.Proofs.Ytbagcmeeiiohpaa
