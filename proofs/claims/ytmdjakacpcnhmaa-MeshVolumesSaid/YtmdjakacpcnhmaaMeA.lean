/-
  Layer 7: Same, and the Reverse of the document.
-/
import Derived.Test.YtmdjakacpcnhmaaProg
import Derived.Test.YtmdjakacpcnhmaaFvX
import Derived.Test.YtmdjakacpcnhmaaFvZ
import Derived.Test.YtmdjakacpcnhmaaAut
import Derived.Test.YtmdjakacpcnhmaaRd
import Derived.Test.YtmdjakacpcnhmaaPl
import Derived.Test.YtmdjakacpcnhmaaSeA
import Derived.Test.YtmdjakacpcnhmaaSeB
import Derived.Test.YtmdjakacpcnhmaaSeC
import Derived.Test.YtmdjakacpcnhmaaSeD
import Derived.Test.YtmdjakacpcnhmaaMeW
namespace Go.Proofs.Ytmdjakacpcnhmaa
open Go
abbrev sma0_U : Type := Int × (Ty.list (.prod (.int .i64) (.prod (.int .i64) (.int .i64)))).den × (Ty.list (.prod (.int .i64) (.prod (.int .i64) (.int .i64)))).den × (Ty.list (.prod (.int .i64) (.prod (.int .i64) (.int .i64)))).den × (Ty.list (.prod (.int .i64) (.prod (.int .i64) (.int .i64)))).den
abbrev sma0_V : Type := Bool × Int
noncomputable def sma0_St (u : sma0_U) (v : sma0_V) : Stt := ⟨[.one .junk, .one .junk, .one (.p 0 0), .one (.p 1 0), .one (.v false (.bool v.1)), .one .junk, .one .junk, .one .junk, .one .junk, .one .junk, .one .junk, .one .junk, .one .junk, .one .junk, .one .junk, .one .junk, .one .junk, .one .junk, .one .junk, .one .junk, .one .junk, .one .junk, .one .junk, .one .junk, .one .junk, .one (.v false (.int .i64 u.1)), .one (.v false (.int .i64 v.2)), .one .junk, .one .junk, .one .junk, .one .junk, .one .junk, .one .junk, .one .junk, .one .junk, .one .junk, .one .junk, .one .junk, .one .junk, .one .junk, .one .junk, .one .junk, .one .junk, .one .junk, .one .junk, .one .junk, .one .junk, .one .junk, .one .junk, .one .junk, .one .junk, .one .junk, .one .junk, .one .junk, .one .junk, .one .junk, .one .junk, .one .junk, .one .junk], [(1, .cells [.d false false (.prod (.int .i64) (.prod (.int .i64) (.int .i64))) u.2.1, .d false false (.prod (.int .i64) (.prod (.int .i64) (.int .i64))) u.2.2.1]), (0, .cells [.d false false (.prod (.int .i64) (.prod (.int .i64) (.int .i64))) u.2.2.2.1, .d false false (.prod (.int .i64) (.prod (.int .i64) (.int .i64))) u.2.2.2.2])], 1023⟩
noncomputable def sma0_step (u : sma0_U) (v : sma0_V) : Tr (sma0_V ⊕ (Nat × sma0_V)) :=
  match u, v with
  | (q1, q3, _, q5, _), (q0, q2) => .br (decide (q2 < q1)) (.br (decide ((0 : Int) ≤ q2) && decide (q2 < (↑(List.length q5) : Int))) (.br (decide ((0 : Int) ≤ q2) && decide (q2 < (↑(List.length q3) : Int))) (.br (!(Prod.fst (el_iii q5 q2) == Prod.fst (el_iii q3 q2) && (Prod.fst (Prod.snd (el_iii q5 q2)) == Prod.fst (Prod.snd (el_iii q3 q2)) && (Prod.snd (Prod.snd (el_iii q5 q2)) == Prod.snd (Prod.snd (el_iii q3 q2)) && true)))) (.ret (.inr (0, (false, q2)))) (.ret (.inl (q0, IntKind.wrap IntKind.i64 (q2 + (1 : Int)))))) (.bad 29)) (.bad 29)) (.ret (.inr (1, (q0, q2))))
set_option maxRecDepth 100000 in
set_option maxHeartbeats 4000000 in
theorem sma0_step_eq : ∀ (u : sma0_U) (v : sma0_V), (evalC Try.prog (evalB Try.prog meW_S52 (opens []) seD_L52 7).1 (evalB Try.prog meW_S52 (opens []) seD_L52 7).2 (opens []) (seD_L52 29) 100000 (0 :: [0, 1, 0, 1, 1]) (loopOf (bodyOf Try.prog 29) [1, 1, 0, 1, 0]) (sma0_St u v) []).bind (finF [0, 1, 5, 6, 7, 8, 9, 10, 11, 12, 13, 14, 15, 16, 17, 18, 19, 20, 21, 22, 23, 24, 27, 28, 29, 30, 31, 32, 33, 34, 35, 36, 37, 38, 39, 40, 41, 42, 43, 44, 45, 46, 47, 48, 49, 50, 51, 52, 53, 54, 55, 56, 57, 58] [] [1, 0] [] 1023) = (sma0_step u v).bind (outA (sma0_St u) [.ret, .exit 0]) := by
  rintro ⟨q1, q3, q4, q5, q6⟩ ⟨q0, q2⟩
  kernel_rfl
noncomputable def sma0_rd (b : Bool) (o2 : Option AV) (o3 : Option AV) (o4 : Option AV) (o25 : Option AV) (o26 : Option AV) (own : Own) : Option (sma0_U × sma0_V) := zrT b <| zrO o2 fun za1 => zrA1 za1 fun zc2 => zrP 0 0 zc2 <| zrO o3 fun za3 => zrA1 za3 fun zc4 => zrP 1 0 zc4 <| zrO o4 fun za5 => zrA1 za5 fun zc6 => zrB zc6 fun q0 => zrO o25 fun za7 => zrA1 za7 fun zc8 => zrI .i64 zc8 fun q1 => zrO o26 fun za9 => zrA1 za9 fun zc10 => zrI .i64 zc10 fun q2 => zrL own fun zq11 zw12 => zrKey 1 zq11 fun zk13 => zrC zk13 fun zl14 => zrL zl14 fun zc15 zr16 => zrD (.prod (.int .i64) (.prod (.int .i64) (.int .i64))) zc15 fun q3 => zrL zr16 fun zc17 zr18 => zrD (.prod (.int .i64) (.prod (.int .i64) (.int .i64))) zc17 fun q4 => zrN zr18 <| zrL zw12 fun zq19 zw20 => zrKey 0 zq19 fun zk21 => zrC zk21 fun zl22 => zrL zl22 fun zc23 zr24 => zrD (.prod (.int .i64) (.prod (.int .i64) (.int .i64))) zc23 fun q5 => zrL zr24 fun zc25 zr26 => zrD (.prod (.int .i64) (.prod (.int .i64) (.int .i64))) zc25 fun q6 => zrN zr26 <| zrN zw20 <| some ((q1, q3, q4, q5, q6), (q0, q2))
noncomputable def sma0_can (st : Stt) : Stt := canA [0, 1, 5, 6, 7, 8, 9, 10, 11, 12, 13, 14, 15, 16, 17, 18, 19, 20, 21, 22, 23, 24, 27, 28, 29, 30, 31, 32, 33, 34, 35, 36, 37, 38, 39, 40, 41, 42, 43, 44, 45, 46, 47, 48, 49, 50, 51, 52, 53, 54, 55, 56, 57, 58] [] [1, 0] [] 1023 st
noncomputable def sma0_cok (st : Stt) : Bool := canAok [0, 1, 5, 6, 7, 8, 9, 10, 11, 12, 13, 14, 15, 16, 17, 18, 19, 20, 21, 22, 23, 24, 27, 28, 29, 30, 31, 32, 33, 34, 35, 36, 37, 38, 39, 40, 41, 42, 43, 44, 45, 46, 47, 48, 49, 50, 51, 52, 53, 54, 55, 56, 57, 58] [] [1, 0] [] 1023 st
noncomputable def sma0_read (st : Stt) : Option (sma0_U × sma0_V) := sma0_rd (sma0_cok st && (staysA [] [1, 0] st.own && juAll [0, 1, 5, 6, 7, 8, 9, 10, 11, 12, 13, 14, 15, 16, 17, 18, 19, 20, 21, 22, 23, 24, 27, 28, 29, 30, 31, 32, 33, 34, 35, 36, 37, 38, 39, 40, 41, 42, 43, 44, 45, 46, 47, 48, 49, 50, 51, 52, 53, 54, 55, 56, 57, 58] (sma0_can st).tm 59)) (sma0_can st).tm[2]? (sma0_can st).tm[3]? (sma0_can st).tm[4]? (sma0_can st).tm[25]? (sma0_can st).tm[26]? (sma0_can st).own
set_option maxRecDepth 100000 in
set_option maxHeartbeats 4000000 in
theorem sma0_rd_ok {b : Bool} {tm : List AV} {own : Own} {u : sma0_U} {v : sma0_V} (hj : b = true → juAll [0, 1, 5, 6, 7, 8, 9, 10, 11, 12, 13, 14, 15, 16, 17, 18, 19, 20, 21, 22, 23, 24, 27, 28, 29, 30, 31, 32, 33, 34, 35, 36, 37, 38, 39, 40, 41, 42, 43, 44, 45, 46, 47, 48, 49, 50, 51, 52, 53, 54, 55, 56, 57, 58] tm 59 = true) (h : sma0_rd b tm[2]? tm[3]? tm[4]? tm[25]? tm[26]? own = some (u, v)) : b = true ∧ tm = (sma0_St u v).tm ∧ own = (sma0_St u v).own := by
  unfold sma0_rd at h
  obtain ⟨rfl, h0⟩ := zrT_some h
  obtain ⟨za1, e2, h1⟩ := zrO_some h0
  obtain ⟨zc2, rfl, h2⟩ := zrA1_some h1
  obtain ⟨rfl, h3⟩ := zrP_some h2
  obtain ⟨za3, e3, h4⟩ := zrO_some h3
  obtain ⟨zc4, rfl, h5⟩ := zrA1_some h4
  obtain ⟨rfl, h6⟩ := zrP_some h5
  obtain ⟨za5, e4, h7⟩ := zrO_some h6
  obtain ⟨zc6, rfl, h8⟩ := zrA1_some h7
  obtain ⟨q0, rfl, h9⟩ := zrB_some h8
  obtain ⟨za7, e25, h10⟩ := zrO_some h9
  obtain ⟨zc8, rfl, h11⟩ := zrA1_some h10
  obtain ⟨q1, rfl, h12⟩ := zrI_some h11
  obtain ⟨za9, e26, h13⟩ := zrO_some h12
  obtain ⟨zc10, rfl, h14⟩ := zrA1_some h13
  obtain ⟨q2, rfl, h15⟩ := zrI_some h14
  obtain ⟨zq11, zw12, rfl, h16⟩ := zrL_some h15
  obtain ⟨zk13, rfl, h17⟩ := zrKey_some h16
  obtain ⟨zl14, rfl, h18⟩ := zrC_some h17
  obtain ⟨zc15, zr16, rfl, h19⟩ := zrL_some h18
  obtain ⟨q3, rfl, h20⟩ := zrD_some h19
  obtain ⟨zc17, zr18, rfl, h21⟩ := zrL_some h20
  obtain ⟨q4, rfl, h22⟩ := zrD_some h21
  obtain ⟨rfl, h23⟩ := zrN_some h22
  obtain ⟨zq19, zw20, rfl, h24⟩ := zrL_some h23
  obtain ⟨zk21, rfl, h25⟩ := zrKey_some h24
  obtain ⟨zl22, rfl, h26⟩ := zrC_some h25
  obtain ⟨zc23, zr24, rfl, h27⟩ := zrL_some h26
  obtain ⟨q5, rfl, h28⟩ := zrD_some h27
  obtain ⟨zc25, zr26, rfl, h29⟩ := zrL_some h28
  obtain ⟨q6, rfl, h30⟩ := zrD_some h29
  obtain ⟨rfl, h31⟩ := zrN_some h30
  obtain ⟨rfl, h32⟩ := zrN_some h31
  have h := Option.some.inj h32
  have hu := congrArg Prod.fst h
  have hv := congrArg Prod.snd h
  dsimp only at hu hv
  subst hu
  subst hv
  exact ⟨rfl, (tm_fill (hj rfl) (Lv := [(2, .one (.p 0 0)), (3, .one (.p 1 0)), (4, .one (.v false (.bool q0))), (25, .one (.v false (.int .i64 q1))), (26, .one (.v false (.int .i64 q2)))]) (by kernel_rfl) ⟨e2, e3, e4, e25, e26, trivial⟩).trans (by kernel_rfl), rfl⟩
theorem sma0_read_ok (st : Stt) (u : sma0_U) (v : sma0_V) (h : sma0_read st = some (u, v)) : sma0_cok st = true ∧ staysA [] [1, 0] st.own = true ∧ sma0_can st = sma0_St u v := by
  obtain ⟨h1, h2, h3⟩ := sma0_rd_ok (fun hb => by rw [Bool.and_eq_true, Bool.and_eq_true] at hb; exact hb.2.2) h
  rw [Bool.and_eq_true, Bool.and_eq_true] at h1
  refine ⟨h1.1, h1.2.1, ?_⟩
  have e : sma0_can st = ⟨(sma0_can st).tm, (sma0_can st).own, 1023⟩ := by kernel_rfl
  rw [e, h2, h3]
  rfl
noncomputable def sma0_cond (u : sma0_U) (v : sma0_V) : Bool := runC (sma0_step u) v
noncomputable def sma0_g (u : sma0_U) (v : sma0_V) : Nat × sma0_V := runG (sma0_step u) v
theorem sma0_hg : ∀ (u : sma0_U) (v : sma0_V), sma0_cond u v = true → loopN (sma0_step u) ((fun u v => runF (sma0_step u) v) u v) v = some (sma0_g u v) := by
  exact fun u v h => run_hg h
noncomputable def sma0_m (st : Stt) : Option (Tr (Ex × Stt)) := sumM sma0_read sma0_cond sma0_St sma0_g [(0, .ret), (1, .exit 0)] st
noncomputable def meA_L51 : FuncId → Loops := addL 29 [0, 1, 0, 1, 1] sma0_m seD_L52
set_option maxRecDepth 100000 in
set_option maxHeartbeats 4000000 in
theorem meA_L51_ok : LoopsOK Try.prog meA_L51 :=
  loop_sumF (body := (bodyOf Try.prog 29)) (c := (loopOf (bodyOf Try.prog 29) [1, 1, 0, 1, 0])) (kinds := [.ret, .exit 0]) (allow := [(0, .ret), (1, .exit 0)]) (St := sma0_St) (step := sma0_step) (W := [0, 1, 5, 6, 7, 8, 9, 10, 11, 12, 13, 14, 15, 16, 17, 18, 19, 20, 21, 22, 23, 24, 27, 28, 29, 30, 31, 32, 33, 34, 35, 36, 37, 38, 39, 40, 41, 42, 43, 44, 45, 46, 47, 48, 49, 50, 51, 52, 53, 54, 55, 56, 57, 58]) (As := []) (ks := [1, 0]) (dd := []) (nx := 1023) (n := 100000) (g := sma0_g) (cond := sma0_cond) (fuel := (fun u v => runF (sma0_step u) v)) (read := sma0_read) (by kernel_rfl) (meW_S52_ok) (seD_L52_ok) 7 ⟨Try.f29, by kernel_rfl, by kernel_rfl⟩ (by kernel_rfl) (by kernel_rfl) (by kernel_rfl) sma0_step_eq sma0_hg sma0_read_ok
abbrev sma1_U : Type := Int × (Ty.list (.prod (.int .i64) (.prod (.int .i64) (.int .i64)))).den × (Ty.list (.prod (.int .i64) (.prod (.int .i64) (.int .i64)))).den × (Ty.list (.prod (.int .i64) (.prod (.int .i64) (.int .i64)))).den × (Ty.list (.prod (.int .i64) (.prod (.int .i64) (.int .i64)))).den
abbrev sma1_V : Type := Bool × Int
noncomputable def sma1_St (u : sma1_U) (v : sma1_V) : Stt := ⟨[.one .junk, .one .junk, .one (.p 0 0), .one (.p 1 0), .one (.v false (.bool v.1)), .one .junk, .one .junk, .one .junk, .one .junk, .one .junk, .one .junk, .one .junk, .one .junk, .one .junk, .one .junk, .one .junk, .one .junk, .one .junk, .one .junk, .one .junk, .one .junk, .one .junk, .one .junk, .one .junk, .one .junk, .one .junk, .one .junk, .one .junk, .one .junk, .one .junk, .one .junk, .one .junk, .one .junk, .one .junk, .one .junk, .one .junk, .one .junk, .one .junk, .one .junk, .one .junk, .one .junk, .one .junk, .one .junk, .one (.v false (.int .i64 u.1)), .one (.v false (.int .i64 v.2)), .one .junk, .one .junk, .one .junk, .one .junk, .one .junk, .one .junk, .one .junk, .one .junk, .one .junk, .one .junk, .one .junk, .one .junk, .one .junk, .one .junk], [(1, .cells [.d false false (.prod (.int .i64) (.prod (.int .i64) (.int .i64))) u.2.1, .d false false (.prod (.int .i64) (.prod (.int .i64) (.int .i64))) u.2.2.1]), (0, .cells [.d false false (.prod (.int .i64) (.prod (.int .i64) (.int .i64))) u.2.2.2.1, .d false false (.prod (.int .i64) (.prod (.int .i64) (.int .i64))) u.2.2.2.2])], 2027⟩
noncomputable def sma1_step (u : sma1_U) (v : sma1_V) : Tr (sma1_V ⊕ (Nat × sma1_V)) :=
  match u, v with
  | (q1, _, q4, _, q6), (q0, q2) => .br (decide (q2 < q1)) (.br (decide ((0 : Int) ≤ q2) && decide (q2 < (↑(List.length q6) : Int))) (.br (decide ((0 : Int) ≤ q2) && decide (q2 < (↑(List.length q4) : Int))) (.br (!(Prod.fst (el_iii q6 q2) == Prod.fst (el_iii q4 q2) && (Prod.fst (Prod.snd (el_iii q6 q2)) == Prod.fst (Prod.snd (el_iii q4 q2)) && (Prod.snd (Prod.snd (el_iii q6 q2)) == Prod.snd (Prod.snd (el_iii q4 q2)) && true)))) (.ret (.inr (0, (false, q2)))) (.ret (.inl (q0, IntKind.wrap IntKind.i64 (q2 + (1 : Int)))))) (.bad 29)) (.bad 29)) (.ret (.inr (1, (q0, q2))))
set_option maxRecDepth 100000 in
set_option maxHeartbeats 4000000 in
theorem sma1_step_eq : ∀ (u : sma1_U) (v : sma1_V), (evalC Try.prog (evalB Try.prog meW_S52 (opens []) meA_L51 7).1 (evalB Try.prog meW_S52 (opens []) meA_L51 7).2 (opens []) (meA_L51 29) 100000 (0 :: [0, 1, 0, 1, 1, 1]) (loopOf (bodyOf Try.prog 29) [1, 1, 1, 0, 1, 0]) (sma1_St u v) []).bind (finF [0, 1, 5, 6, 7, 8, 9, 10, 11, 12, 13, 14, 15, 16, 17, 18, 19, 20, 21, 22, 23, 24, 25, 26, 27, 28, 29, 30, 31, 32, 33, 34, 35, 36, 37, 38, 39, 40, 41, 42, 45, 46, 47, 48, 49, 50, 51, 52, 53, 54, 55, 56, 57, 58] [] [1, 0] [] 2027) = (sma1_step u v).bind (outA (sma1_St u) [.ret, .exit 2]) := by
  rintro ⟨q1, q3, q4, q5, q6⟩ ⟨q0, q2⟩
  kernel_rfl
noncomputable def sma1_rd (b : Bool) (o2 : Option AV) (o3 : Option AV) (o4 : Option AV) (o43 : Option AV) (o44 : Option AV) (own : Own) : Option (sma1_U × sma1_V) := zrT b <| zrO o2 fun za1 => zrA1 za1 fun zc2 => zrP 0 0 zc2 <| zrO o3 fun za3 => zrA1 za3 fun zc4 => zrP 1 0 zc4 <| zrO o4 fun za5 => zrA1 za5 fun zc6 => zrB zc6 fun q0 => zrO o43 fun za7 => zrA1 za7 fun zc8 => zrI .i64 zc8 fun q1 => zrO o44 fun za9 => zrA1 za9 fun zc10 => zrI .i64 zc10 fun q2 => zrL own fun zq11 zw12 => zrKey 1 zq11 fun zk13 => zrC zk13 fun zl14 => zrL zl14 fun zc15 zr16 => zrD (.prod (.int .i64) (.prod (.int .i64) (.int .i64))) zc15 fun q3 => zrL zr16 fun zc17 zr18 => zrD (.prod (.int .i64) (.prod (.int .i64) (.int .i64))) zc17 fun q4 => zrN zr18 <| zrL zw12 fun zq19 zw20 => zrKey 0 zq19 fun zk21 => zrC zk21 fun zl22 => zrL zl22 fun zc23 zr24 => zrD (.prod (.int .i64) (.prod (.int .i64) (.int .i64))) zc23 fun q5 => zrL zr24 fun zc25 zr26 => zrD (.prod (.int .i64) (.prod (.int .i64) (.int .i64))) zc25 fun q6 => zrN zr26 <| zrN zw20 <| some ((q1, q3, q4, q5, q6), (q0, q2))
noncomputable def sma1_can (st : Stt) : Stt := canA [0, 1, 5, 6, 7, 8, 9, 10, 11, 12, 13, 14, 15, 16, 17, 18, 19, 20, 21, 22, 23, 24, 25, 26, 27, 28, 29, 30, 31, 32, 33, 34, 35, 36, 37, 38, 39, 40, 41, 42, 45, 46, 47, 48, 49, 50, 51, 52, 53, 54, 55, 56, 57, 58] [] [1, 0] [] 2027 st
noncomputable def sma1_cok (st : Stt) : Bool := canAok [0, 1, 5, 6, 7, 8, 9, 10, 11, 12, 13, 14, 15, 16, 17, 18, 19, 20, 21, 22, 23, 24, 25, 26, 27, 28, 29, 30, 31, 32, 33, 34, 35, 36, 37, 38, 39, 40, 41, 42, 45, 46, 47, 48, 49, 50, 51, 52, 53, 54, 55, 56, 57, 58] [] [1, 0] [] 2027 st
noncomputable def sma1_read (st : Stt) : Option (sma1_U × sma1_V) := sma1_rd (sma1_cok st && (staysA [] [1, 0] st.own && juAll [0, 1, 5, 6, 7, 8, 9, 10, 11, 12, 13, 14, 15, 16, 17, 18, 19, 20, 21, 22, 23, 24, 25, 26, 27, 28, 29, 30, 31, 32, 33, 34, 35, 36, 37, 38, 39, 40, 41, 42, 45, 46, 47, 48, 49, 50, 51, 52, 53, 54, 55, 56, 57, 58] (sma1_can st).tm 59)) (sma1_can st).tm[2]? (sma1_can st).tm[3]? (sma1_can st).tm[4]? (sma1_can st).tm[43]? (sma1_can st).tm[44]? (sma1_can st).own
set_option maxRecDepth 100000 in
set_option maxHeartbeats 4000000 in
theorem sma1_rd_ok {b : Bool} {tm : List AV} {own : Own} {u : sma1_U} {v : sma1_V} (hj : b = true → juAll [0, 1, 5, 6, 7, 8, 9, 10, 11, 12, 13, 14, 15, 16, 17, 18, 19, 20, 21, 22, 23, 24, 25, 26, 27, 28, 29, 30, 31, 32, 33, 34, 35, 36, 37, 38, 39, 40, 41, 42, 45, 46, 47, 48, 49, 50, 51, 52, 53, 54, 55, 56, 57, 58] tm 59 = true) (h : sma1_rd b tm[2]? tm[3]? tm[4]? tm[43]? tm[44]? own = some (u, v)) : b = true ∧ tm = (sma1_St u v).tm ∧ own = (sma1_St u v).own := by
  unfold sma1_rd at h
  obtain ⟨rfl, h0⟩ := zrT_some h
  obtain ⟨za1, e2, h1⟩ := zrO_some h0
  obtain ⟨zc2, rfl, h2⟩ := zrA1_some h1
  obtain ⟨rfl, h3⟩ := zrP_some h2
  obtain ⟨za3, e3, h4⟩ := zrO_some h3
  obtain ⟨zc4, rfl, h5⟩ := zrA1_some h4
  obtain ⟨rfl, h6⟩ := zrP_some h5
  obtain ⟨za5, e4, h7⟩ := zrO_some h6
  obtain ⟨zc6, rfl, h8⟩ := zrA1_some h7
  obtain ⟨q0, rfl, h9⟩ := zrB_some h8
  obtain ⟨za7, e43, h10⟩ := zrO_some h9
  obtain ⟨zc8, rfl, h11⟩ := zrA1_some h10
  obtain ⟨q1, rfl, h12⟩ := zrI_some h11
  obtain ⟨za9, e44, h13⟩ := zrO_some h12
  obtain ⟨zc10, rfl, h14⟩ := zrA1_some h13
  obtain ⟨q2, rfl, h15⟩ := zrI_some h14
  obtain ⟨zq11, zw12, rfl, h16⟩ := zrL_some h15
  obtain ⟨zk13, rfl, h17⟩ := zrKey_some h16
  obtain ⟨zl14, rfl, h18⟩ := zrC_some h17
  obtain ⟨zc15, zr16, rfl, h19⟩ := zrL_some h18
  obtain ⟨q3, rfl, h20⟩ := zrD_some h19
  obtain ⟨zc17, zr18, rfl, h21⟩ := zrL_some h20
  obtain ⟨q4, rfl, h22⟩ := zrD_some h21
  obtain ⟨rfl, h23⟩ := zrN_some h22
  obtain ⟨zq19, zw20, rfl, h24⟩ := zrL_some h23
  obtain ⟨zk21, rfl, h25⟩ := zrKey_some h24
  obtain ⟨zl22, rfl, h26⟩ := zrC_some h25
  obtain ⟨zc23, zr24, rfl, h27⟩ := zrL_some h26
  obtain ⟨q5, rfl, h28⟩ := zrD_some h27
  obtain ⟨zc25, zr26, rfl, h29⟩ := zrL_some h28
  obtain ⟨q6, rfl, h30⟩ := zrD_some h29
  obtain ⟨rfl, h31⟩ := zrN_some h30
  obtain ⟨rfl, h32⟩ := zrN_some h31
  have h := Option.some.inj h32
  have hu := congrArg Prod.fst h
  have hv := congrArg Prod.snd h
  dsimp only at hu hv
  subst hu
  subst hv
  exact ⟨rfl, (tm_fill (hj rfl) (Lv := [(2, .one (.p 0 0)), (3, .one (.p 1 0)), (4, .one (.v false (.bool q0))), (43, .one (.v false (.int .i64 q1))), (44, .one (.v false (.int .i64 q2)))]) (by kernel_rfl) ⟨e2, e3, e4, e43, e44, trivial⟩).trans (by kernel_rfl), rfl⟩
theorem sma1_read_ok (st : Stt) (u : sma1_U) (v : sma1_V) (h : sma1_read st = some (u, v)) : sma1_cok st = true ∧ staysA [] [1, 0] st.own = true ∧ sma1_can st = sma1_St u v := by
  obtain ⟨h1, h2, h3⟩ := sma1_rd_ok (fun hb => by rw [Bool.and_eq_true, Bool.and_eq_true] at hb; exact hb.2.2) h
  rw [Bool.and_eq_true, Bool.and_eq_true] at h1
  refine ⟨h1.1, h1.2.1, ?_⟩
  have e : sma1_can st = ⟨(sma1_can st).tm, (sma1_can st).own, 2027⟩ := by kernel_rfl
  rw [e, h2, h3]
  rfl
noncomputable def sma1_cond (u : sma1_U) (v : sma1_V) : Bool := runC (sma1_step u) v
noncomputable def sma1_g (u : sma1_U) (v : sma1_V) : Nat × sma1_V := runG (sma1_step u) v
theorem sma1_hg : ∀ (u : sma1_U) (v : sma1_V), sma1_cond u v = true → loopN (sma1_step u) ((fun u v => runF (sma1_step u) v) u v) v = some (sma1_g u v) := by
  exact fun u v h => run_hg h
noncomputable def sma1_m (st : Stt) : Option (Tr (Ex × Stt)) := sumM sma1_read sma1_cond sma1_St sma1_g [(0, .ret), (1, .exit 2)] st
noncomputable def meA_L52 : FuncId → Loops := addL 29 [0, 1, 0, 1, 1, 1] sma1_m meA_L51
set_option maxRecDepth 100000 in
set_option maxHeartbeats 4000000 in
theorem meA_L52_ok : LoopsOK Try.prog meA_L52 :=
  loop_sumF (body := (bodyOf Try.prog 29)) (c := (loopOf (bodyOf Try.prog 29) [1, 1, 1, 0, 1, 0])) (kinds := [.ret, .exit 2]) (allow := [(0, .ret), (1, .exit 2)]) (St := sma1_St) (step := sma1_step) (W := [0, 1, 5, 6, 7, 8, 9, 10, 11, 12, 13, 14, 15, 16, 17, 18, 19, 20, 21, 22, 23, 24, 25, 26, 27, 28, 29, 30, 31, 32, 33, 34, 35, 36, 37, 38, 39, 40, 41, 42, 45, 46, 47, 48, 49, 50, 51, 52, 53, 54, 55, 56, 57, 58]) (As := []) (ks := [1, 0]) (dd := []) (nx := 2027) (n := 100000) (g := sma1_g) (cond := sma1_cond) (fuel := (fun u v => runF (sma1_step u) v)) (read := sma1_read) (by kernel_rfl) (meW_S52_ok) (meA_L51_ok) 7 ⟨Try.f29, by kernel_rfl, by kernel_rfl⟩ (by kernel_rfl) (by kernel_rfl) (by kernel_rfl) sma1_step_eq sma1_hg sma1_read_ok
abbrev smb0_U : Type := Int × (Ty.list (.prod (.int .i64) (.prod (.int .i64) (.int .i64)))).den × (Ty.list (.prod (.int .i64) (.prod (.int .i64) (.int .i64)))).den × (Ty.list (.prod (.int .i64) (.prod (.int .i64) (.int .i64)))).den × (Ty.list (.prod (.int .i64) (.prod (.int .i64) (.int .i64)))).den
abbrev smb0_V : Type := Bool × Int
noncomputable def smb0_St (u : smb0_U) (v : smb0_V) : Stt := ⟨[.one .junk, .one .junk, .one (.p 0 0), .one (.p 1 0), .one (.v false (.bool v.1)), .one .junk, .one .junk, .one .junk, .one .junk, .one .junk, .one .junk, .one .junk, .one .junk, .one .junk, .one .junk, .one .junk, .one .junk, .one .junk, .one .junk, .one .junk, .one .junk, .one .junk, .one .junk, .one .junk, .one .junk, .one (.v false (.int .i64 u.1)), .one (.v false (.int .i64 v.2)), .one .junk, .one .junk, .one .junk, .one .junk, .one .junk, .one .junk, .one .junk, .one .junk, .one .junk, .one .junk, .one .junk, .one .junk, .one .junk, .one .junk, .one .junk, .one .junk, .one .junk, .one .junk, .one .junk, .one .junk, .one .junk, .one .junk, .one .junk, .one .junk, .one .junk, .one .junk, .one .junk, .one .junk, .one .junk, .one .junk, .one .junk, .one .junk], [(1, .cells [.d false false (.prod (.int .i64) (.prod (.int .i64) (.int .i64))) u.2.1, .d false false (.prod (.int .i64) (.prod (.int .i64) (.int .i64))) u.2.2.1]), (0, .cells [.d false false (.prod (.int .i64) (.prod (.int .i64) (.int .i64))) u.2.2.2.1, .d false false (.prod (.int .i64) (.prod (.int .i64) (.int .i64))) u.2.2.2.2])], 1023⟩
noncomputable def smb0_step (u : smb0_U) (v : smb0_V) : Tr (smb0_V ⊕ (Nat × smb0_V)) :=
  match u, v with
  | (q1, q3, _, q5, _), (q0, q2) => .br (decide (q2 < q1)) (.br (decide ((0 : Int) ≤ q2) && decide (q2 < (↑(List.length q5) : Int))) (.br (decide ((0 : Int) ≤ q2) && decide (q2 < (↑(List.length q3) : Int))) (.br (!(Prod.fst (el_iii q5 q2) == Prod.fst (el_iii q3 q2) && (Prod.fst (Prod.snd (el_iii q5 q2)) == Prod.fst (Prod.snd (el_iii q3 q2)) && (Prod.snd (Prod.snd (el_iii q5 q2)) == Prod.snd (Prod.snd (el_iii q3 q2)) && true)))) (.ret (.inr (0, (false, q2)))) (.ret (.inl (q0, IntKind.wrap IntKind.i64 (q2 + (1 : Int)))))) (.bad 29)) (.bad 29)) (.ret (.inr (1, (q0, q2))))
set_option maxRecDepth 100000 in
set_option maxHeartbeats 4000000 in
theorem smb0_step_eq : ∀ (u : smb0_U) (v : smb0_V), (evalC Try.prog (evalB Try.prog meW_S52 (opens []) meA_L52 7).1 (evalB Try.prog meW_S52 (opens []) meA_L52 7).2 (opens []) (meA_L52 27) 100000 (0 :: [0, 1, 0, 1, 1]) (loopOf (bodyOf Try.prog 27) [1, 1, 0, 1, 0]) (smb0_St u v) []).bind (finF [0, 1, 5, 6, 7, 8, 9, 10, 11, 12, 13, 14, 15, 16, 17, 18, 19, 20, 21, 22, 23, 24, 27, 28, 29, 30, 31, 32, 33, 34, 35, 36, 37, 38, 39, 40, 41, 42, 43, 44, 45, 46, 47, 48, 49, 50, 51, 52, 53, 54, 55, 56, 57, 58] [] [1, 0] [] 1023) = (smb0_step u v).bind (outA (smb0_St u) [.ret, .exit 0]) := by
  rintro ⟨q1, q3, q4, q5, q6⟩ ⟨q0, q2⟩
  kernel_rfl
noncomputable def smb0_rd (b : Bool) (o2 : Option AV) (o3 : Option AV) (o4 : Option AV) (o25 : Option AV) (o26 : Option AV) (own : Own) : Option (smb0_U × smb0_V) := zrT b <| zrO o2 fun za1 => zrA1 za1 fun zc2 => zrP 0 0 zc2 <| zrO o3 fun za3 => zrA1 za3 fun zc4 => zrP 1 0 zc4 <| zrO o4 fun za5 => zrA1 za5 fun zc6 => zrB zc6 fun q0 => zrO o25 fun za7 => zrA1 za7 fun zc8 => zrI .i64 zc8 fun q1 => zrO o26 fun za9 => zrA1 za9 fun zc10 => zrI .i64 zc10 fun q2 => zrL own fun zq11 zw12 => zrKey 1 zq11 fun zk13 => zrC zk13 fun zl14 => zrL zl14 fun zc15 zr16 => zrD (.prod (.int .i64) (.prod (.int .i64) (.int .i64))) zc15 fun q3 => zrL zr16 fun zc17 zr18 => zrD (.prod (.int .i64) (.prod (.int .i64) (.int .i64))) zc17 fun q4 => zrN zr18 <| zrL zw12 fun zq19 zw20 => zrKey 0 zq19 fun zk21 => zrC zk21 fun zl22 => zrL zl22 fun zc23 zr24 => zrD (.prod (.int .i64) (.prod (.int .i64) (.int .i64))) zc23 fun q5 => zrL zr24 fun zc25 zr26 => zrD (.prod (.int .i64) (.prod (.int .i64) (.int .i64))) zc25 fun q6 => zrN zr26 <| zrN zw20 <| some ((q1, q3, q4, q5, q6), (q0, q2))
noncomputable def smb0_can (st : Stt) : Stt := canA [0, 1, 5, 6, 7, 8, 9, 10, 11, 12, 13, 14, 15, 16, 17, 18, 19, 20, 21, 22, 23, 24, 27, 28, 29, 30, 31, 32, 33, 34, 35, 36, 37, 38, 39, 40, 41, 42, 43, 44, 45, 46, 47, 48, 49, 50, 51, 52, 53, 54, 55, 56, 57, 58] [] [1, 0] [] 1023 st
noncomputable def smb0_cok (st : Stt) : Bool := canAok [0, 1, 5, 6, 7, 8, 9, 10, 11, 12, 13, 14, 15, 16, 17, 18, 19, 20, 21, 22, 23, 24, 27, 28, 29, 30, 31, 32, 33, 34, 35, 36, 37, 38, 39, 40, 41, 42, 43, 44, 45, 46, 47, 48, 49, 50, 51, 52, 53, 54, 55, 56, 57, 58] [] [1, 0] [] 1023 st
noncomputable def smb0_read (st : Stt) : Option (smb0_U × smb0_V) := smb0_rd (smb0_cok st && (staysA [] [1, 0] st.own && juAll [0, 1, 5, 6, 7, 8, 9, 10, 11, 12, 13, 14, 15, 16, 17, 18, 19, 20, 21, 22, 23, 24, 27, 28, 29, 30, 31, 32, 33, 34, 35, 36, 37, 38, 39, 40, 41, 42, 43, 44, 45, 46, 47, 48, 49, 50, 51, 52, 53, 54, 55, 56, 57, 58] (smb0_can st).tm 59)) (smb0_can st).tm[2]? (smb0_can st).tm[3]? (smb0_can st).tm[4]? (smb0_can st).tm[25]? (smb0_can st).tm[26]? (smb0_can st).own
set_option maxRecDepth 100000 in
set_option maxHeartbeats 4000000 in
theorem smb0_rd_ok {b : Bool} {tm : List AV} {own : Own} {u : smb0_U} {v : smb0_V} (hj : b = true → juAll [0, 1, 5, 6, 7, 8, 9, 10, 11, 12, 13, 14, 15, 16, 17, 18, 19, 20, 21, 22, 23, 24, 27, 28, 29, 30, 31, 32, 33, 34, 35, 36, 37, 38, 39, 40, 41, 42, 43, 44, 45, 46, 47, 48, 49, 50, 51, 52, 53, 54, 55, 56, 57, 58] tm 59 = true) (h : smb0_rd b tm[2]? tm[3]? tm[4]? tm[25]? tm[26]? own = some (u, v)) : b = true ∧ tm = (smb0_St u v).tm ∧ own = (smb0_St u v).own := by
  unfold smb0_rd at h
  obtain ⟨rfl, h0⟩ := zrT_some h
  obtain ⟨za1, e2, h1⟩ := zrO_some h0
  obtain ⟨zc2, rfl, h2⟩ := zrA1_some h1
  obtain ⟨rfl, h3⟩ := zrP_some h2
  obtain ⟨za3, e3, h4⟩ := zrO_some h3
  obtain ⟨zc4, rfl, h5⟩ := zrA1_some h4
  obtain ⟨rfl, h6⟩ := zrP_some h5
  obtain ⟨za5, e4, h7⟩ := zrO_some h6
  obtain ⟨zc6, rfl, h8⟩ := zrA1_some h7
  obtain ⟨q0, rfl, h9⟩ := zrB_some h8
  obtain ⟨za7, e25, h10⟩ := zrO_some h9
  obtain ⟨zc8, rfl, h11⟩ := zrA1_some h10
  obtain ⟨q1, rfl, h12⟩ := zrI_some h11
  obtain ⟨za9, e26, h13⟩ := zrO_some h12
  obtain ⟨zc10, rfl, h14⟩ := zrA1_some h13
  obtain ⟨q2, rfl, h15⟩ := zrI_some h14
  obtain ⟨zq11, zw12, rfl, h16⟩ := zrL_some h15
  obtain ⟨zk13, rfl, h17⟩ := zrKey_some h16
  obtain ⟨zl14, rfl, h18⟩ := zrC_some h17
  obtain ⟨zc15, zr16, rfl, h19⟩ := zrL_some h18
  obtain ⟨q3, rfl, h20⟩ := zrD_some h19
  obtain ⟨zc17, zr18, rfl, h21⟩ := zrL_some h20
  obtain ⟨q4, rfl, h22⟩ := zrD_some h21
  obtain ⟨rfl, h23⟩ := zrN_some h22
  obtain ⟨zq19, zw20, rfl, h24⟩ := zrL_some h23
  obtain ⟨zk21, rfl, h25⟩ := zrKey_some h24
  obtain ⟨zl22, rfl, h26⟩ := zrC_some h25
  obtain ⟨zc23, zr24, rfl, h27⟩ := zrL_some h26
  obtain ⟨q5, rfl, h28⟩ := zrD_some h27
  obtain ⟨zc25, zr26, rfl, h29⟩ := zrL_some h28
  obtain ⟨q6, rfl, h30⟩ := zrD_some h29
  obtain ⟨rfl, h31⟩ := zrN_some h30
  obtain ⟨rfl, h32⟩ := zrN_some h31
  have h := Option.some.inj h32
  have hu := congrArg Prod.fst h
  have hv := congrArg Prod.snd h
  dsimp only at hu hv
  subst hu
  subst hv
  exact ⟨rfl, (tm_fill (hj rfl) (Lv := [(2, .one (.p 0 0)), (3, .one (.p 1 0)), (4, .one (.v false (.bool q0))), (25, .one (.v false (.int .i64 q1))), (26, .one (.v false (.int .i64 q2)))]) (by kernel_rfl) ⟨e2, e3, e4, e25, e26, trivial⟩).trans (by kernel_rfl), rfl⟩
theorem smb0_read_ok (st : Stt) (u : smb0_U) (v : smb0_V) (h : smb0_read st = some (u, v)) : smb0_cok st = true ∧ staysA [] [1, 0] st.own = true ∧ smb0_can st = smb0_St u v := by
  obtain ⟨h1, h2, h3⟩ := smb0_rd_ok (fun hb => by rw [Bool.and_eq_true, Bool.and_eq_true] at hb; exact hb.2.2) h
  rw [Bool.and_eq_true, Bool.and_eq_true] at h1
  refine ⟨h1.1, h1.2.1, ?_⟩
  have e : smb0_can st = ⟨(smb0_can st).tm, (smb0_can st).own, 1023⟩ := by kernel_rfl
  rw [e, h2, h3]
  rfl
noncomputable def smb0_cond (u : smb0_U) (v : smb0_V) : Bool := runC (smb0_step u) v
noncomputable def smb0_g (u : smb0_U) (v : smb0_V) : Nat × smb0_V := runG (smb0_step u) v
theorem smb0_hg : ∀ (u : smb0_U) (v : smb0_V), smb0_cond u v = true → loopN (smb0_step u) ((fun u v => runF (smb0_step u) v) u v) v = some (smb0_g u v) := by
  exact fun u v h => run_hg h
noncomputable def smb0_m (st : Stt) : Option (Tr (Ex × Stt)) := sumM smb0_read smb0_cond smb0_St smb0_g [(0, .ret), (1, .exit 0)] st
noncomputable def meA_L53 : FuncId → Loops := addL 27 [0, 1, 0, 1, 1] smb0_m meA_L52
set_option maxRecDepth 100000 in
set_option maxHeartbeats 4000000 in
theorem meA_L53_ok : LoopsOK Try.prog meA_L53 :=
  loop_sumF (body := (bodyOf Try.prog 27)) (c := (loopOf (bodyOf Try.prog 27) [1, 1, 0, 1, 0])) (kinds := [.ret, .exit 0]) (allow := [(0, .ret), (1, .exit 0)]) (St := smb0_St) (step := smb0_step) (W := [0, 1, 5, 6, 7, 8, 9, 10, 11, 12, 13, 14, 15, 16, 17, 18, 19, 20, 21, 22, 23, 24, 27, 28, 29, 30, 31, 32, 33, 34, 35, 36, 37, 38, 39, 40, 41, 42, 43, 44, 45, 46, 47, 48, 49, 50, 51, 52, 53, 54, 55, 56, 57, 58]) (As := []) (ks := [1, 0]) (dd := []) (nx := 1023) (n := 100000) (g := smb0_g) (cond := smb0_cond) (fuel := (fun u v => runF (smb0_step u) v)) (read := smb0_read) (by kernel_rfl) (meW_S52_ok) (meA_L52_ok) 7 ⟨Try.f27, by kernel_rfl, by kernel_rfl⟩ (by kernel_rfl) (by kernel_rfl) (by kernel_rfl) smb0_step_eq smb0_hg smb0_read_ok
abbrev smb1_U : Type := Int × (Ty.list (.prod (.int .i64) (.prod (.int .i64) (.int .i64)))).den × (Ty.list (.prod (.int .i64) (.prod (.int .i64) (.int .i64)))).den × (Ty.list (.prod (.int .i64) (.prod (.int .i64) (.int .i64)))).den × (Ty.list (.prod (.int .i64) (.prod (.int .i64) (.int .i64)))).den
abbrev smb1_V : Type := Bool × Int
noncomputable def smb1_St (u : smb1_U) (v : smb1_V) : Stt := ⟨[.one .junk, .one .junk, .one (.p 0 0), .one (.p 1 0), .one (.v false (.bool v.1)), .one .junk, .one .junk, .one .junk, .one .junk, .one .junk, .one .junk, .one .junk, .one .junk, .one .junk, .one .junk, .one .junk, .one .junk, .one .junk, .one .junk, .one .junk, .one .junk, .one .junk, .one .junk, .one .junk, .one .junk, .one .junk, .one .junk, .one .junk, .one .junk, .one .junk, .one .junk, .one .junk, .one .junk, .one .junk, .one .junk, .one .junk, .one .junk, .one .junk, .one .junk, .one .junk, .one .junk, .one .junk, .one .junk, .one (.v false (.int .i64 u.1)), .one (.v false (.int .i64 v.2)), .one .junk, .one .junk, .one .junk, .one .junk, .one .junk, .one .junk, .one .junk, .one .junk, .one .junk, .one .junk, .one .junk, .one .junk, .one .junk, .one .junk], [(1, .cells [.d false false (.prod (.int .i64) (.prod (.int .i64) (.int .i64))) u.2.1, .d false false (.prod (.int .i64) (.prod (.int .i64) (.int .i64))) u.2.2.1]), (0, .cells [.d false false (.prod (.int .i64) (.prod (.int .i64) (.int .i64))) u.2.2.2.1, .d false false (.prod (.int .i64) (.prod (.int .i64) (.int .i64))) u.2.2.2.2])], 2027⟩
noncomputable def smb1_step (u : smb1_U) (v : smb1_V) : Tr (smb1_V ⊕ (Nat × smb1_V)) :=
  match u, v with
  | (q1, _, q4, _, q6), (q0, q2) => .br (decide (q2 < q1)) (.br (decide ((0 : Int) ≤ q2) && decide (q2 < (↑(List.length q6) : Int))) (.br (decide ((0 : Int) ≤ q2) && decide (q2 < (↑(List.length q4) : Int))) (.br (!(Prod.fst (el_iii q6 q2) == Prod.fst (el_iii q4 q2) && (Prod.fst (Prod.snd (el_iii q6 q2)) == Prod.fst (Prod.snd (el_iii q4 q2)) && (Prod.snd (Prod.snd (el_iii q6 q2)) == Prod.snd (Prod.snd (el_iii q4 q2)) && true)))) (.ret (.inr (0, (false, q2)))) (.ret (.inl (q0, IntKind.wrap IntKind.i64 (q2 + (1 : Int)))))) (.bad 29)) (.bad 29)) (.ret (.inr (1, (q0, q2))))
set_option maxRecDepth 100000 in
set_option maxHeartbeats 4000000 in
theorem smb1_step_eq : ∀ (u : smb1_U) (v : smb1_V), (evalC Try.prog (evalB Try.prog meW_S52 (opens []) meA_L53 7).1 (evalB Try.prog meW_S52 (opens []) meA_L53 7).2 (opens []) (meA_L53 27) 100000 (0 :: [0, 1, 0, 1, 1, 1]) (loopOf (bodyOf Try.prog 27) [1, 1, 1, 0, 1, 0]) (smb1_St u v) []).bind (finF [0, 1, 5, 6, 7, 8, 9, 10, 11, 12, 13, 14, 15, 16, 17, 18, 19, 20, 21, 22, 23, 24, 25, 26, 27, 28, 29, 30, 31, 32, 33, 34, 35, 36, 37, 38, 39, 40, 41, 42, 45, 46, 47, 48, 49, 50, 51, 52, 53, 54, 55, 56, 57, 58] [] [1, 0] [] 2027) = (smb1_step u v).bind (outA (smb1_St u) [.ret, .exit 2]) := by
  rintro ⟨q1, q3, q4, q5, q6⟩ ⟨q0, q2⟩
  kernel_rfl
noncomputable def smb1_rd (b : Bool) (o2 : Option AV) (o3 : Option AV) (o4 : Option AV) (o43 : Option AV) (o44 : Option AV) (own : Own) : Option (smb1_U × smb1_V) := zrT b <| zrO o2 fun za1 => zrA1 za1 fun zc2 => zrP 0 0 zc2 <| zrO o3 fun za3 => zrA1 za3 fun zc4 => zrP 1 0 zc4 <| zrO o4 fun za5 => zrA1 za5 fun zc6 => zrB zc6 fun q0 => zrO o43 fun za7 => zrA1 za7 fun zc8 => zrI .i64 zc8 fun q1 => zrO o44 fun za9 => zrA1 za9 fun zc10 => zrI .i64 zc10 fun q2 => zrL own fun zq11 zw12 => zrKey 1 zq11 fun zk13 => zrC zk13 fun zl14 => zrL zl14 fun zc15 zr16 => zrD (.prod (.int .i64) (.prod (.int .i64) (.int .i64))) zc15 fun q3 => zrL zr16 fun zc17 zr18 => zrD (.prod (.int .i64) (.prod (.int .i64) (.int .i64))) zc17 fun q4 => zrN zr18 <| zrL zw12 fun zq19 zw20 => zrKey 0 zq19 fun zk21 => zrC zk21 fun zl22 => zrL zl22 fun zc23 zr24 => zrD (.prod (.int .i64) (.prod (.int .i64) (.int .i64))) zc23 fun q5 => zrL zr24 fun zc25 zr26 => zrD (.prod (.int .i64) (.prod (.int .i64) (.int .i64))) zc25 fun q6 => zrN zr26 <| zrN zw20 <| some ((q1, q3, q4, q5, q6), (q0, q2))
noncomputable def smb1_can (st : Stt) : Stt := canA [0, 1, 5, 6, 7, 8, 9, 10, 11, 12, 13, 14, 15, 16, 17, 18, 19, 20, 21, 22, 23, 24, 25, 26, 27, 28, 29, 30, 31, 32, 33, 34, 35, 36, 37, 38, 39, 40, 41, 42, 45, 46, 47, 48, 49, 50, 51, 52, 53, 54, 55, 56, 57, 58] [] [1, 0] [] 2027 st
noncomputable def smb1_cok (st : Stt) : Bool := canAok [0, 1, 5, 6, 7, 8, 9, 10, 11, 12, 13, 14, 15, 16, 17, 18, 19, 20, 21, 22, 23, 24, 25, 26, 27, 28, 29, 30, 31, 32, 33, 34, 35, 36, 37, 38, 39, 40, 41, 42, 45, 46, 47, 48, 49, 50, 51, 52, 53, 54, 55, 56, 57, 58] [] [1, 0] [] 2027 st
noncomputable def smb1_read (st : Stt) : Option (smb1_U × smb1_V) := smb1_rd (smb1_cok st && (staysA [] [1, 0] st.own && juAll [0, 1, 5, 6, 7, 8, 9, 10, 11, 12, 13, 14, 15, 16, 17, 18, 19, 20, 21, 22, 23, 24, 25, 26, 27, 28, 29, 30, 31, 32, 33, 34, 35, 36, 37, 38, 39, 40, 41, 42, 45, 46, 47, 48, 49, 50, 51, 52, 53, 54, 55, 56, 57, 58] (smb1_can st).tm 59)) (smb1_can st).tm[2]? (smb1_can st).tm[3]? (smb1_can st).tm[4]? (smb1_can st).tm[43]? (smb1_can st).tm[44]? (smb1_can st).own
set_option maxRecDepth 100000 in
set_option maxHeartbeats 4000000 in
theorem smb1_rd_ok {b : Bool} {tm : List AV} {own : Own} {u : smb1_U} {v : smb1_V} (hj : b = true → juAll [0, 1, 5, 6, 7, 8, 9, 10, 11, 12, 13, 14, 15, 16, 17, 18, 19, 20, 21, 22, 23, 24, 25, 26, 27, 28, 29, 30, 31, 32, 33, 34, 35, 36, 37, 38, 39, 40, 41, 42, 45, 46, 47, 48, 49, 50, 51, 52, 53, 54, 55, 56, 57, 58] tm 59 = true) (h : smb1_rd b tm[2]? tm[3]? tm[4]? tm[43]? tm[44]? own = some (u, v)) : b = true ∧ tm = (smb1_St u v).tm ∧ own = (smb1_St u v).own := by
  unfold smb1_rd at h
  obtain ⟨rfl, h0⟩ := zrT_some h
  obtain ⟨za1, e2, h1⟩ := zrO_some h0
  obtain ⟨zc2, rfl, h2⟩ := zrA1_some h1
  obtain ⟨rfl, h3⟩ := zrP_some h2
  obtain ⟨za3, e3, h4⟩ := zrO_some h3
  obtain ⟨zc4, rfl, h5⟩ := zrA1_some h4
  obtain ⟨rfl, h6⟩ := zrP_some h5
  obtain ⟨za5, e4, h7⟩ := zrO_some h6
  obtain ⟨zc6, rfl, h8⟩ := zrA1_some h7
  obtain ⟨q0, rfl, h9⟩ := zrB_some h8
  obtain ⟨za7, e43, h10⟩ := zrO_some h9
  obtain ⟨zc8, rfl, h11⟩ := zrA1_some h10
  obtain ⟨q1, rfl, h12⟩ := zrI_some h11
  obtain ⟨za9, e44, h13⟩ := zrO_some h12
  obtain ⟨zc10, rfl, h14⟩ := zrA1_some h13
  obtain ⟨q2, rfl, h15⟩ := zrI_some h14
  obtain ⟨zq11, zw12, rfl, h16⟩ := zrL_some h15
  obtain ⟨zk13, rfl, h17⟩ := zrKey_some h16
  obtain ⟨zl14, rfl, h18⟩ := zrC_some h17
  obtain ⟨zc15, zr16, rfl, h19⟩ := zrL_some h18
  obtain ⟨q3, rfl, h20⟩ := zrD_some h19
  obtain ⟨zc17, zr18, rfl, h21⟩ := zrL_some h20
  obtain ⟨q4, rfl, h22⟩ := zrD_some h21
  obtain ⟨rfl, h23⟩ := zrN_some h22
  obtain ⟨zq19, zw20, rfl, h24⟩ := zrL_some h23
  obtain ⟨zk21, rfl, h25⟩ := zrKey_some h24
  obtain ⟨zl22, rfl, h26⟩ := zrC_some h25
  obtain ⟨zc23, zr24, rfl, h27⟩ := zrL_some h26
  obtain ⟨q5, rfl, h28⟩ := zrD_some h27
  obtain ⟨zc25, zr26, rfl, h29⟩ := zrL_some h28
  obtain ⟨q6, rfl, h30⟩ := zrD_some h29
  obtain ⟨rfl, h31⟩ := zrN_some h30
  obtain ⟨rfl, h32⟩ := zrN_some h31
  have h := Option.some.inj h32
  have hu := congrArg Prod.fst h
  have hv := congrArg Prod.snd h
  dsimp only at hu hv
  subst hu
  subst hv
  exact ⟨rfl, (tm_fill (hj rfl) (Lv := [(2, .one (.p 0 0)), (3, .one (.p 1 0)), (4, .one (.v false (.bool q0))), (43, .one (.v false (.int .i64 q1))), (44, .one (.v false (.int .i64 q2)))]) (by kernel_rfl) ⟨e2, e3, e4, e43, e44, trivial⟩).trans (by kernel_rfl), rfl⟩
theorem smb1_read_ok (st : Stt) (u : smb1_U) (v : smb1_V) (h : smb1_read st = some (u, v)) : smb1_cok st = true ∧ staysA [] [1, 0] st.own = true ∧ smb1_can st = smb1_St u v := by
  obtain ⟨h1, h2, h3⟩ := smb1_rd_ok (fun hb => by rw [Bool.and_eq_true, Bool.and_eq_true] at hb; exact hb.2.2) h
  rw [Bool.and_eq_true, Bool.and_eq_true] at h1
  refine ⟨h1.1, h1.2.1, ?_⟩
  have e : smb1_can st = ⟨(smb1_can st).tm, (smb1_can st).own, 2027⟩ := by kernel_rfl
  rw [e, h2, h3]
  rfl
noncomputable def smb1_cond (u : smb1_U) (v : smb1_V) : Bool := runC (smb1_step u) v
noncomputable def smb1_g (u : smb1_U) (v : smb1_V) : Nat × smb1_V := runG (smb1_step u) v
theorem smb1_hg : ∀ (u : smb1_U) (v : smb1_V), smb1_cond u v = true → loopN (smb1_step u) ((fun u v => runF (smb1_step u) v) u v) v = some (smb1_g u v) := by
  exact fun u v h => run_hg h
noncomputable def smb1_m (st : Stt) : Option (Tr (Ex × Stt)) := sumM smb1_read smb1_cond smb1_St smb1_g [(0, .ret), (1, .exit 2)] st
noncomputable def meA_L54 : FuncId → Loops := addL 27 [0, 1, 0, 1, 1, 1] smb1_m meA_L53
set_option maxRecDepth 100000 in
set_option maxHeartbeats 4000000 in
theorem meA_L54_ok : LoopsOK Try.prog meA_L54 :=
  loop_sumF (body := (bodyOf Try.prog 27)) (c := (loopOf (bodyOf Try.prog 27) [1, 1, 1, 0, 1, 0])) (kinds := [.ret, .exit 2]) (allow := [(0, .ret), (1, .exit 2)]) (St := smb1_St) (step := smb1_step) (W := [0, 1, 5, 6, 7, 8, 9, 10, 11, 12, 13, 14, 15, 16, 17, 18, 19, 20, 21, 22, 23, 24, 25, 26, 27, 28, 29, 30, 31, 32, 33, 34, 35, 36, 37, 38, 39, 40, 41, 42, 45, 46, 47, 48, 49, 50, 51, 52, 53, 54, 55, 56, 57, 58]) (As := []) (ks := [1, 0]) (dd := []) (nx := 2027) (n := 100000) (g := smb1_g) (cond := smb1_cond) (fuel := (fun u v => runF (smb1_step u) v)) (read := smb1_read) (by kernel_rfl) (meW_S52_ok) (meA_L53_ok) 7 ⟨Try.f27, by kernel_rfl, by kernel_rfl⟩ (by kernel_rfl) (by kernel_rfl) (by kernel_rfl) smb1_step_eq smb1_hg smb1_read_ok
abbrev rrv_U : Type := (Ty.list (.prod (.int .i64) (.prod (.int .i64) (.int .i64)))).den × Int × (Ty.list (.prod (.int .i64) (.prod (.int .i64) (.int .i64)))).den
abbrev rrv_V : Type := Int × (Ty.list (.prod (.int .i64) (.prod (.int .i64) (.int .i64)))).den
noncomputable def rrv_St (u : rrv_U) (v : rrv_V) : Stt := ⟨[.one .junk, .one .junk, .one (.p 1 0), .one (.p 10 0), .one .junk, .one .junk, .one .junk, .one .junk, .one .junk, .one .junk, .one .junk, .one .junk, .one .junk, .one .junk, .one .junk, .one .junk, .one (.d false false (.prod (.int .i64) (.prod (.int .i64) (.int .i64))) u.1), .one (.v false (.int .i64 u.2.1)), .one (.v false (.int .i64 v.1)), .one .junk, .one .junk, .one .junk, .one .junk, .one .junk, .one .junk, .one .junk, .one .junk, .one .junk, .one .junk, .one .junk, .one .junk, .one .junk, .one .junk, .one .junk, .one .junk, .one .junk], [(10, .cells [.s false 8 0 (none), .s false 980 0 (none)]), (8, .row true false false 29 (.prod (.int .i64) (.prod (.int .i64) (.int .i64))) u.2.2), (5, .dead), (1, .cells [.v false (Value.slice none (0 : Nat) (0 : Nat)), .v false (Value.slice none (0 : Nat) (0 : Nat))]), (0, .dead), (980, .row true false false 54 (.prod (.int .i64) (.prod (.int .i64) (.int .i64))) v.2)], 1016⟩
noncomputable def rrv_step (u : rrv_U) (v : rrv_V) : Tr (rrv_V ⊕ (Nat × rrv_V)) :=
  match u, v with
  | (q0, q1, _), (q2, q4) => .br (decide (q2 < q1)) (.br (decide ((0 : Int) ≤ q2) && decide (q2 < (↑(List.length q0) : Int))) (.br (decide ((List.length q4 + (1 : Nat)) * (24 : Nat) ≤ maxNew) && decide (List.length q4 + (1 : Nat) ≤ maxLen)) (.ret (.inl (IntKind.wrap IntKind.i64 (q2 + (1 : Int)), q4 ++ [(Prod.fst (el_iii q0 q2), Prod.snd (Prod.snd (el_iii q0 q2)), Prod.fst (Prod.snd (el_iii q0 q2)))]))) (.bad 71)) (.bad 29)) (.ret (.inr (0, (q2, q4))))
set_option maxRecDepth 100000 in
set_option maxHeartbeats 4000000 in
theorem rrv_step_eq : ∀ (u : rrv_U) (v : rrv_V), (evalC Try.prog (evalB Try.prog meW_S52 (opens []) meA_L54 7).1 (evalB Try.prog meW_S52 (opens []) meA_L54 7).2 (opens []) (meA_L54 28) 100000 (0 :: [0, 1, 0, 1, 1, 1]) (loopOf (bodyOf Try.prog 28) [1, 1, 1, 0, 1, 0]) (rrv_St u v) []).bind (finF [0, 1, 4, 5, 6, 7, 8, 9, 10, 11, 12, 13, 14, 15, 19, 20, 21, 22, 23, 24, 25, 26, 27, 28, 29, 30, 31, 32, 33, 34, 35] [⟨980, none, 10, 1, 54, (.prod (.int .i64) (.prod (.int .i64) (.int .i64)))⟩] [10, 8, 5, 1, 0, 980] [5, 0, 1031] 1016) = (rrv_step u v).bind (outA (rrv_St u) [.exit 0]) := by
  rintro ⟨q0, q1, q3⟩ ⟨q2, q4⟩
  kernel_rfl
noncomputable def rrv_rd (b : Bool) (o2 : Option AV) (o3 : Option AV) (o16 : Option AV) (o17 : Option AV) (o18 : Option AV) (own : Own) : Option (rrv_U × rrv_V) := zrT b <| zrO o2 fun za1 => zrA1 za1 fun zc2 => zrP 1 0 zc2 <| zrO o3 fun za3 => zrA1 za3 fun zc4 => zrP 10 0 zc4 <| zrO o16 fun za5 => zrA1 za5 fun zc6 => zrD (.prod (.int .i64) (.prod (.int .i64) (.int .i64))) zc6 fun q0 => zrO o17 fun za7 => zrA1 za7 fun zc8 => zrI .i64 zc8 fun q1 => zrO o18 fun za9 => zrA1 za9 fun zc10 => zrI .i64 zc10 fun q2 => zrL own fun zq11 zw12 => zrKey 10 zq11 fun zk13 => zrC zk13 fun zl14 => zrL zl14 fun zc15 zr16 => zrSl 8 0 (none) zc15 <| zrL zr16 fun zc17 zr18 => zrSl 980 0 (none) zc17 <| zrN zr18 <| zrL zw12 fun zq19 zw20 => zrKey 8 zq19 fun zk21 => zrR true 29 (.prod (.int .i64) (.prod (.int .i64) (.int .i64))) zk21 fun q3 => zrL zw20 fun zq22 zw23 => zrKey 5 zq22 fun zk24 => zrX zk24 <| zrL zw23 fun zq25 zw26 => zrKey 1 zq25 fun zk27 => zrC zk27 fun zl28 => zrL zl28 fun zc29 zr30 => zrNil zc29 <| zrL zr30 fun zc31 zr32 => zrNil zc31 <| zrN zr32 <| zrL zw26 fun zq33 zw34 => zrKey 0 zq33 fun zk35 => zrX zk35 <| zrL zw34 fun zq36 zw37 => zrKey 980 zq36 fun zk38 => zrR true 54 (.prod (.int .i64) (.prod (.int .i64) (.int .i64))) zk38 fun q4 => zrN zw37 <| some ((q0, q1, q3), (q2, q4))
noncomputable def rrv_can (st : Stt) : Stt := canA [0, 1, 4, 5, 6, 7, 8, 9, 10, 11, 12, 13, 14, 15, 19, 20, 21, 22, 23, 24, 25, 26, 27, 28, 29, 30, 31, 32, 33, 34, 35] [⟨980, none, 10, 1, 54, (.prod (.int .i64) (.prod (.int .i64) (.int .i64)))⟩] [10, 8, 5, 1, 0, 980] [5, 0, 1031] 1016 st
noncomputable def rrv_cok (st : Stt) : Bool := canAok [0, 1, 4, 5, 6, 7, 8, 9, 10, 11, 12, 13, 14, 15, 19, 20, 21, 22, 23, 24, 25, 26, 27, 28, 29, 30, 31, 32, 33, 34, 35] [⟨980, none, 10, 1, 54, (.prod (.int .i64) (.prod (.int .i64) (.int .i64)))⟩] [10, 8, 5, 1, 0, 980] [5, 0, 1031] 1016 st
noncomputable def rrv_read (st : Stt) : Option (rrv_U × rrv_V) := rrv_rd (rrv_cok st && (staysA [⟨980, none, 10, 1, 54, (.prod (.int .i64) (.prod (.int .i64) (.int .i64)))⟩] [10, 8, 5, 1, 0, 980] st.own && juAll [0, 1, 4, 5, 6, 7, 8, 9, 10, 11, 12, 13, 14, 15, 19, 20, 21, 22, 23, 24, 25, 26, 27, 28, 29, 30, 31, 32, 33, 34, 35] (rrv_can st).tm 36)) (rrv_can st).tm[2]? (rrv_can st).tm[3]? (rrv_can st).tm[16]? (rrv_can st).tm[17]? (rrv_can st).tm[18]? (rrv_can st).own
set_option maxRecDepth 100000 in
set_option maxHeartbeats 4000000 in
theorem rrv_rd_ok {b : Bool} {tm : List AV} {own : Own} {u : rrv_U} {v : rrv_V} (hj : b = true → juAll [0, 1, 4, 5, 6, 7, 8, 9, 10, 11, 12, 13, 14, 15, 19, 20, 21, 22, 23, 24, 25, 26, 27, 28, 29, 30, 31, 32, 33, 34, 35] tm 36 = true) (h : rrv_rd b tm[2]? tm[3]? tm[16]? tm[17]? tm[18]? own = some (u, v)) : b = true ∧ tm = (rrv_St u v).tm ∧ own = (rrv_St u v).own := by
  unfold rrv_rd at h
  obtain ⟨rfl, h0⟩ := zrT_some h
  obtain ⟨za1, e2, h1⟩ := zrO_some h0
  obtain ⟨zc2, rfl, h2⟩ := zrA1_some h1
  obtain ⟨rfl, h3⟩ := zrP_some h2
  obtain ⟨za3, e3, h4⟩ := zrO_some h3
  obtain ⟨zc4, rfl, h5⟩ := zrA1_some h4
  obtain ⟨rfl, h6⟩ := zrP_some h5
  obtain ⟨za5, e16, h7⟩ := zrO_some h6
  obtain ⟨zc6, rfl, h8⟩ := zrA1_some h7
  obtain ⟨q0, rfl, h9⟩ := zrD_some h8
  obtain ⟨za7, e17, h10⟩ := zrO_some h9
  obtain ⟨zc8, rfl, h11⟩ := zrA1_some h10
  obtain ⟨q1, rfl, h12⟩ := zrI_some h11
  obtain ⟨za9, e18, h13⟩ := zrO_some h12
  obtain ⟨zc10, rfl, h14⟩ := zrA1_some h13
  obtain ⟨q2, rfl, h15⟩ := zrI_some h14
  obtain ⟨zq11, zw12, rfl, h16⟩ := zrL_some h15
  obtain ⟨zk13, rfl, h17⟩ := zrKey_some h16
  obtain ⟨zl14, rfl, h18⟩ := zrC_some h17
  obtain ⟨zc15, zr16, rfl, h19⟩ := zrL_some h18
  obtain ⟨rfl, h20⟩ := zrSl_some h19
  obtain ⟨zc17, zr18, rfl, h21⟩ := zrL_some h20
  obtain ⟨rfl, h22⟩ := zrSl_some h21
  obtain ⟨rfl, h23⟩ := zrN_some h22
  obtain ⟨zq19, zw20, rfl, h24⟩ := zrL_some h23
  obtain ⟨zk21, rfl, h25⟩ := zrKey_some h24
  obtain ⟨q3, rfl, h26⟩ := zrR_some h25
  obtain ⟨zq22, zw23, rfl, h27⟩ := zrL_some h26
  obtain ⟨zk24, rfl, h28⟩ := zrKey_some h27
  obtain ⟨rfl, h29⟩ := zrX_some h28
  obtain ⟨zq25, zw26, rfl, h30⟩ := zrL_some h29
  obtain ⟨zk27, rfl, h31⟩ := zrKey_some h30
  obtain ⟨zl28, rfl, h32⟩ := zrC_some h31
  obtain ⟨zc29, zr30, rfl, h33⟩ := zrL_some h32
  obtain ⟨rfl, h34⟩ := zrNil_some h33
  obtain ⟨zc31, zr32, rfl, h35⟩ := zrL_some h34
  obtain ⟨rfl, h36⟩ := zrNil_some h35
  obtain ⟨rfl, h37⟩ := zrN_some h36
  obtain ⟨zq33, zw34, rfl, h38⟩ := zrL_some h37
  obtain ⟨zk35, rfl, h39⟩ := zrKey_some h38
  obtain ⟨rfl, h40⟩ := zrX_some h39
  obtain ⟨zq36, zw37, rfl, h41⟩ := zrL_some h40
  obtain ⟨zk38, rfl, h42⟩ := zrKey_some h41
  obtain ⟨q4, rfl, h43⟩ := zrR_some h42
  obtain ⟨rfl, h44⟩ := zrN_some h43
  have h := Option.some.inj h44
  have hu := congrArg Prod.fst h
  have hv := congrArg Prod.snd h
  dsimp only at hu hv
  subst hu
  subst hv
  exact ⟨rfl, (tm_fill (hj rfl) (Lv := [(2, .one (.p 1 0)), (3, .one (.p 10 0)), (16, .one (.d false false (.prod (.int .i64) (.prod (.int .i64) (.int .i64))) q0)), (17, .one (.v false (.int .i64 q1))), (18, .one (.v false (.int .i64 q2)))]) (by kernel_rfl) ⟨e2, e3, e16, e17, e18, trivial⟩).trans (by kernel_rfl), rfl⟩
theorem rrv_read_ok (st : Stt) (u : rrv_U) (v : rrv_V) (h : rrv_read st = some (u, v)) : rrv_cok st = true ∧ staysA [⟨980, none, 10, 1, 54, (.prod (.int .i64) (.prod (.int .i64) (.int .i64)))⟩] [10, 8, 5, 1, 0, 980] st.own = true ∧ rrv_can st = rrv_St u v := by
  obtain ⟨h1, h2, h3⟩ := rrv_rd_ok (fun hb => by rw [Bool.and_eq_true, Bool.and_eq_true] at hb; exact hb.2.2) h
  rw [Bool.and_eq_true, Bool.and_eq_true] at h1
  refine ⟨h1.1, h1.2.1, ?_⟩
  have e : rrv_can st = ⟨(rrv_can st).tm, (rrv_can st).own, 1016⟩ := by kernel_rfl
  rw [e, h2, h3]
  rfl
noncomputable def rrv_cond (u : rrv_U) (v : rrv_V) : Bool := runC (rrv_step u) v
noncomputable def rrv_g (u : rrv_U) (v : rrv_V) : Nat × rrv_V := runG (rrv_step u) v
theorem rrv_hg : ∀ (u : rrv_U) (v : rrv_V), rrv_cond u v = true → loopN (rrv_step u) ((fun u v => runF (rrv_step u) v) u v) v = some (rrv_g u v) := by
  exact fun u v h => run_hg h
noncomputable def rrv_m (st : Stt) : Option (Tr (Ex × Stt)) := sumM rrv_read rrv_cond rrv_St rrv_g [(0, .exit 0)] st
noncomputable def meA_L55 : FuncId → Loops := addL 28 [0, 1, 0, 1, 1, 1] rrv_m meA_L54
set_option maxRecDepth 100000 in
set_option maxHeartbeats 4000000 in
theorem meA_L55_ok : LoopsOK Try.prog meA_L55 :=
  loop_sumF (body := (bodyOf Try.prog 28)) (c := (loopOf (bodyOf Try.prog 28) [1, 1, 1, 0, 1, 0])) (kinds := [.exit 0]) (allow := [(0, .exit 0)]) (St := rrv_St) (step := rrv_step) (W := [0, 1, 4, 5, 6, 7, 8, 9, 10, 11, 12, 13, 14, 15, 19, 20, 21, 22, 23, 24, 25, 26, 27, 28, 29, 30, 31, 32, 33, 34, 35]) (As := [⟨980, none, 10, 1, 54, (.prod (.int .i64) (.prod (.int .i64) (.int .i64)))⟩]) (ks := [10, 8, 5, 1, 0, 980]) (dd := [5, 0, 1031]) (nx := 1016) (n := 100000) (g := rrv_g) (cond := rrv_cond) (fuel := (fun u v => runF (rrv_step u) v)) (read := rrv_read) (by kernel_rfl) (meW_S52_ok) (meA_L54_ok) 7 ⟨Try.f28, by kernel_rfl, by kernel_rfl⟩ (by kernel_rfl) (by kernel_rfl) (by kernel_rfl) rrv_step_eq rrv_hg rrv_read_ok
def smE (V T W U : List (Int × (Int × Int))) : Bool := decide (V = W ∧ T = U)
theorem scanN {β : Type} {n : Nat} {p : Nat → Bool} {step : (β × Int) → Tr ((β × Int) ⊕ (Nat × (β × Int)))} {c e : β}
    (h : ∀ (i : Nat) (hi : i < n), (step (e, (i : Int))).val = some (bif p i then .inl (e, ((i + 1 : Nat) : Int)) else .inr (0, (c, (i : Int))))) (he : (step (e, (n : Int))).val = some (.inr (1, (e, (n : Int))))) :
    runC step (e, 0) = true ∧ (((∀ i, i < n → p i = true) ∧ runG step (e, 0) = (1, (e, (n : Int)))) ∨ (∃ i : Nat, i < n ∧ p i = false ∧ runG step (e, 0) = (0, (c, (i : Int))))) := by
  refine run_val (step := step) (Inv := fun v => ∃ i : Nat, v = (e, (i : Int)) ∧ i ≤ n ∧ ∀ j, j < i → p j = true) (μ := fun v => n - v.2.toNat) (Q := fun r => ((∀ i, i < n → p i = true) ∧ r = (1, (e, (n : Int)))) ∨ (∃ i : Nat, i < n ∧ p i = false ∧ r = (0, (c, (i : Int))))) ?_ _ _ (Nat.lt_succ_self _) ⟨0, rfl, Nat.zero_le _, fun j hj => absurd hj (Nat.not_lt_zero _)⟩
  rintro v ⟨i, rfl, hi, hp⟩
  by_cases hl : i < n
  · refine ⟨_, h i hl, ?_⟩
    cases hb : p i
    · exact .inr ⟨i, hl, hb, rfl⟩
    · refine ⟨⟨i + 1, rfl, by omega, fun j hji => ?_⟩, by show n - ((i + 1 : Nat) : Int).toNat < n - (i : Int).toNat; omega⟩
      by_cases e2 : j = i
      · subst e2; exact hb
      · exact hp j (by omega)
  · have : i = n := by omega
    subst this
    exact ⟨_, he, .inl ⟨hp, rfl⟩⟩
theorem eq3 (a b : Int × (Int × Int)) : (a.1 == b.1 && (a.2.1 == b.2.1 && (a.2.2 == b.2.2 && true))) = decide (a = b) := by
  obtain ⟨a1, a2, a3⟩ := a
  obtain ⟨b1, b2, b3⟩ := b
  rw [Bool.eq_iff_iff]
  simp
theorem wiN {i n : Nat} (h : i < n) (hn : (n : Int) ≤ 9223372036854775806) : IntKind.wrap IntKind.i64 ((i : Int) + (1 : Int)) = ((i + 1 : Nat) : Int) := by
  rw [wid (by omega) (by omega)]; push_cast; rfl
theorem same_of {V W : List (Int × (Int × Int))} (hl : V.length = W.length) {g : Nat × (Bool × Int)} (h : ((∀ i, i < V.length → decide (el_iii V (i : Int) = el_iii W (i : Int)) = true) ∧ g = (1, (false, (V.length : Int)))) ∨ (∃ i : Nat, i < V.length ∧ decide (el_iii V (i : Int) = el_iii W (i : Int)) = false ∧ g = (0, (false, (i : Int))))) : (V = W ∧ g = (1, (false, (V.length : Int)))) ∨ (V ≠ W ∧ ∃ i, g = (0, (false, i))) := by
  rcases h with ⟨h, e⟩ | ⟨i, hi, h, e⟩
  · refine .inl ⟨?_, e⟩
    refine List.ext_getElem hl fun i h1 h2 => ?_
    have := of_decide_eq_true (h i h1)
    rwa [el_get h1, el_get h2] at this
  · refine .inr ⟨fun e2 => ?_, _, e⟩
    subst e2
    simp at h
theorem sma0_run {V T W U : List (Int × (Int × Int))} (hn : (V.length : Int) ≤ 9223372036854775806) (hl : V.length = W.length) : sma0_cond ((V.length : Int), W, U, V, T) (false, 0) = true ∧ ((V = W ∧ sma0_g ((V.length : Int), W, U, V, T) (false, 0) = (1, (false, (V.length : Int)))) ∨ (V ≠ W ∧ ∃ i, sma0_g ((V.length : Int), W, U, V, T) (false, 0) = (0, (false, i)))) := by
  obtain ⟨h1, h2⟩ := scanN (n := V.length) (p := fun i => decide (el_iii V i = el_iii W i)) (c := false) (e := false) (step := sma0_step ((V.length : Int), W, U, V, T)) (fun i hi => by
    have c1 : decide ((i : Int) < (V.length : Int)) = true := decide_eq_true (by omega)
    have c2 : decide ((0 : Int) ≤ (i : Int)) = true := decide_eq_true (by omega)
    have c3 : decide ((i : Int) < (W.length : Int)) = true := decide_eq_true (by omega)
    simp only [sma0_step, Tr.val, c1, c2, c3, eq3, wiN hi hn, Bool.and_self, cond_true]
    cases decide (el_iii V (i : Int) = el_iii W (i : Int)) <;> rfl) (by simp only [sma0_step, Tr.val, Int.lt_irrefl, decide_false, cond_false])
  exact ⟨h1, same_of hl h2⟩
theorem sma1_run {V T W U : List (Int × (Int × Int))} (hn : (T.length : Int) ≤ 9223372036854775806) (hl : T.length = U.length) : sma1_cond ((T.length : Int), W, U, V, T) (false, 0) = true ∧ ((T = U ∧ sma1_g ((T.length : Int), W, U, V, T) (false, 0) = (1, (false, (T.length : Int)))) ∨ (T ≠ U ∧ ∃ i, sma1_g ((T.length : Int), W, U, V, T) (false, 0) = (0, (false, i)))) := by
  obtain ⟨h1, h2⟩ := scanN (n := T.length) (p := fun i => decide (el_iii T i = el_iii U i)) (c := false) (e := false) (step := sma1_step ((T.length : Int), W, U, V, T)) (fun i hi => by
    have c1 : decide ((i : Int) < (T.length : Int)) = true := decide_eq_true (by omega)
    have c2 : decide ((0 : Int) ≤ (i : Int)) = true := decide_eq_true (by omega)
    have c3 : decide ((i : Int) < (U.length : Int)) = true := decide_eq_true (by omega)
    simp only [sma1_step, Tr.val, c1, c2, c3, eq3, wiN hi hn, Bool.and_self, cond_true]
    cases decide (el_iii T (i : Int) = el_iii U (i : Int)) <;> rfl) (by simp only [sma1_step, Tr.val, Int.lt_irrefl, decide_false, cond_false])
  exact ⟨h1, same_of hl h2⟩
theorem smb0_run {V T W U : List (Int × (Int × Int))} (hn : (V.length : Int) ≤ 9223372036854775806) (hl : V.length = W.length) : smb0_cond ((V.length : Int), W, U, V, T) (false, 0) = true ∧ ((V = W ∧ smb0_g ((V.length : Int), W, U, V, T) (false, 0) = (1, (false, (V.length : Int)))) ∨ (V ≠ W ∧ ∃ i, smb0_g ((V.length : Int), W, U, V, T) (false, 0) = (0, (false, i)))) := by
  obtain ⟨h1, h2⟩ := scanN (n := V.length) (p := fun i => decide (el_iii V i = el_iii W i)) (c := false) (e := false) (step := smb0_step ((V.length : Int), W, U, V, T)) (fun i hi => by
    have c1 : decide ((i : Int) < (V.length : Int)) = true := decide_eq_true (by omega)
    have c2 : decide ((0 : Int) ≤ (i : Int)) = true := decide_eq_true (by omega)
    have c3 : decide ((i : Int) < (W.length : Int)) = true := decide_eq_true (by omega)
    simp only [smb0_step, Tr.val, c1, c2, c3, eq3, wiN hi hn, Bool.and_self, cond_true]
    cases decide (el_iii V (i : Int) = el_iii W (i : Int)) <;> rfl) (by simp only [smb0_step, Tr.val, Int.lt_irrefl, decide_false, cond_false])
  exact ⟨h1, same_of hl h2⟩
theorem smb1_run {V T W U : List (Int × (Int × Int))} (hn : (T.length : Int) ≤ 9223372036854775806) (hl : T.length = U.length) : smb1_cond ((T.length : Int), W, U, V, T) (false, 0) = true ∧ ((T = U ∧ smb1_g ((T.length : Int), W, U, V, T) (false, 0) = (1, (false, (T.length : Int)))) ∨ (T ≠ U ∧ ∃ i, smb1_g ((T.length : Int), W, U, V, T) (false, 0) = (0, (false, i)))) := by
  obtain ⟨h1, h2⟩ := scanN (n := T.length) (p := fun i => decide (el_iii T i = el_iii U i)) (c := false) (e := false) (step := smb1_step ((T.length : Int), W, U, V, T)) (fun i hi => by
    have c1 : decide ((i : Int) < (T.length : Int)) = true := decide_eq_true (by omega)
    have c2 : decide ((0 : Int) ≤ (i : Int)) = true := decide_eq_true (by omega)
    have c3 : decide ((i : Int) < (U.length : Int)) = true := decide_eq_true (by omega)
    simp only [smb1_step, Tr.val, c1, c2, c3, eq3, wiN hi hn, Bool.and_self, cond_true]
    cases decide (el_iii T (i : Int) = el_iii U (i : Int)) <;> rfl) (by simp only [smb1_step, Tr.val, Int.lt_irrefl, decide_false, cond_false])
  exact ⟨h1, same_of hl h2⟩
theorem rrv_run {V T : List (Int × (Int × Int))} (h : chk V T = 0) : rrv_cond (T, (T.length : Int), V) (0, []) = true ∧ rrv_g (T, (T.length : Int), V) (0, []) = (0, ((T.length : Int), T.map rvT)) := by
  obtain ⟨hV, hT, hv, ht⟩ := chk0 h
  have R := run_steps (step := rrv_step (T, (T.length : Int), V)) (St := fun j => ((j : Int), (T.take j).map rvT)) (n := T.length) (t := (0, ((T.length : Int), T.map rvT))) (by
    simp only [rrv_step, Tr.val, Int.lt_irrefl, decide_false, cond_false, List.take_length]) T.length 0 (Nat.zero_add _) (fun j _ hj => by
    have c1 : decide ((j : Int) < (T.length : Int)) = true := decide_eq_true (by omega)
    have c2 : decide ((0 : Int) ≤ (j : Int)) = true := decide_eq_true (by omega)
    have hl : ((T.take j).map rvT).length = j := by rw [List.length_map, List.length_take]; omega
    obtain ⟨_, r2, r3⟩ := room32 (n := ((T.take j).map rvT).length) (by omega)
    rw [take_s hj, List.map_append]
    simp only [rrv_step, Tr.val, c1, c2, el_get hj, r2, r3, wi1 hj hT, Bool.and_self, cond_true]
    rfl)
  exact R
set_option maxRecDepth 100000 in
theorem smac_tree (V : (Ty.list (.prod (.int .i64) (.prod (.int .i64) (.int .i64)))).den) (T : (Ty.list (.prod (.int .i64) (.prod (.int .i64) (.int .i64)))).den) (W : (Ty.list (.prod (.int .i64) (.prod (.int .i64) (.int .i64)))).den) (U : (Ty.list (.prod (.int .i64) (.prod (.int .i64) (.int .i64)))).den) : evalF Try.prog meW_S52 (opens []) meA_L55 9 29 [.ag [.d false false (.prod (.int .i64) (.prod (.int .i64) (.int .i64))) V, .d false false (.prod (.int .i64) (.prod (.int .i64) (.int .i64))) T], .ag [.d false false (.prod (.int .i64) (.prod (.int .i64) (.int .i64))) W, .d false false (.prod (.int .i64) (.prod (.int .i64) (.int .i64))) U]] = .br ((bif bif (↑(List.length V) : Int) != (↑(List.length W) : Int) then true else (↑(List.length T) : Int) != (↑(List.length U) : Int) then true else ((sma0_cond ((↑(List.length V) : Int), W, U, V, T) (false, (0 : Int))) && (bif Nat.beq (Prod.fst (sma0_g ((↑(List.length V) : Int), W, U, V, T) (false, (0 : Int)))) (0 : Nat) then true else ((Nat.beq (Prod.fst (sma0_g ((↑(List.length V) : Int), W, U, V, T) (false, (0 : Int)))) (1 : Nat)) && ((sma1_cond ((↑(List.length T) : Int), W, U, V, T) (Prod.fst (Prod.snd (sma0_g ((↑(List.length V) : Int), W, U, V, T) (false, (0 : Int)))), (0 : Int))) && (bif Nat.beq (Prod.fst (sma1_g ((↑(List.length T) : Int), W, U, V, T) (Prod.fst (Prod.snd (sma0_g ((↑(List.length V) : Int), W, U, V, T) (false, (0 : Int)))), (0 : Int)))) (0 : Nat) then true else (Nat.beq (Prod.fst (sma1_g ((↑(List.length T) : Int), W, U, V, T) (Prod.fst (Prod.snd (sma0_g ((↑(List.length V) : Int), W, U, V, T) (false, (0 : Int)))), (0 : Int)))) (1 : Nat))))))))) (.ret (.one (.v false (.bool (bif bif (↑(List.length V) : Int) != (↑(List.length W) : Int) then true else (↑(List.length T) : Int) != (↑(List.length U) : Int) then false else bif Nat.beq (Prod.fst (sma0_g ((↑(List.length V) : Int), W, U, V, T) (false, (0 : Int)))) (0 : Nat) then Prod.fst (Prod.snd (sma0_g ((↑(List.length V) : Int), W, U, V, T) (false, (0 : Int)))) else bif Nat.beq (Prod.fst (sma1_g ((↑(List.length T) : Int), W, U, V, T) (Prod.fst (Prod.snd (sma0_g ((↑(List.length V) : Int), W, U, V, T) (false, (0 : Int)))), (0 : Int)))) (0 : Nat) then Prod.fst (Prod.snd (sma1_g ((↑(List.length T) : Int), W, U, V, T) (Prod.fst (Prod.snd (sma0_g ((↑(List.length V) : Int), W, U, V, T) (false, (0 : Int)))), (0 : Int)))) else true))))) (.bad 116) := by kernel_rfl
theorem smac_val (V : (Ty.list (.prod (.int .i64) (.prod (.int .i64) (.int .i64)))).den) (T : (Ty.list (.prod (.int .i64) (.prod (.int .i64) (.int .i64)))).den) (W : (Ty.list (.prod (.int .i64) (.prod (.int .i64) (.int .i64)))).den) (U : (Ty.list (.prod (.int .i64) (.prod (.int .i64) (.int .i64)))).den) (hc : (decide ((V.length : Int) ≤ 9223372036854775806) && decide ((T.length : Int) ≤ 9223372036854775806)) = true) : (.br ((bif bif (↑(List.length V) : Int) != (↑(List.length W) : Int) then true else (↑(List.length T) : Int) != (↑(List.length U) : Int) then true else ((sma0_cond ((↑(List.length V) : Int), W, U, V, T) (false, (0 : Int))) && (bif Nat.beq (Prod.fst (sma0_g ((↑(List.length V) : Int), W, U, V, T) (false, (0 : Int)))) (0 : Nat) then true else ((Nat.beq (Prod.fst (sma0_g ((↑(List.length V) : Int), W, U, V, T) (false, (0 : Int)))) (1 : Nat)) && ((sma1_cond ((↑(List.length T) : Int), W, U, V, T) (Prod.fst (Prod.snd (sma0_g ((↑(List.length V) : Int), W, U, V, T) (false, (0 : Int)))), (0 : Int))) && (bif Nat.beq (Prod.fst (sma1_g ((↑(List.length T) : Int), W, U, V, T) (Prod.fst (Prod.snd (sma0_g ((↑(List.length V) : Int), W, U, V, T) (false, (0 : Int)))), (0 : Int)))) (0 : Nat) then true else (Nat.beq (Prod.fst (sma1_g ((↑(List.length T) : Int), W, U, V, T) (Prod.fst (Prod.snd (sma0_g ((↑(List.length V) : Int), W, U, V, T) (false, (0 : Int)))), (0 : Int)))) (1 : Nat))))))))) (.ret (.one (.v false (.bool (bif bif (↑(List.length V) : Int) != (↑(List.length W) : Int) then true else (↑(List.length T) : Int) != (↑(List.length U) : Int) then false else bif Nat.beq (Prod.fst (sma0_g ((↑(List.length V) : Int), W, U, V, T) (false, (0 : Int)))) (0 : Nat) then Prod.fst (Prod.snd (sma0_g ((↑(List.length V) : Int), W, U, V, T) (false, (0 : Int)))) else bif Nat.beq (Prod.fst (sma1_g ((↑(List.length T) : Int), W, U, V, T) (Prod.fst (Prod.snd (sma0_g ((↑(List.length V) : Int), W, U, V, T) (false, (0 : Int)))), (0 : Int)))) (0 : Nat) then Prod.fst (Prod.snd (sma1_g ((↑(List.length T) : Int), W, U, V, T) (Prod.fst (Prod.snd (sma0_g ((↑(List.length V) : Int), W, U, V, T) (false, (0 : Int)))), (0 : Int)))) else true))))) (.bad 116) : Tr AV).val = some (.one (.v false (.bool (smE V T W U)))) := by
  simp only [Bool.and_eq_true, decide_eq_true_eq] at hc
  show cond _ _ _ = _
  unfold smE
  by_cases hl : V.length = W.length ∧ T.length = U.length
  · obtain ⟨v1, v2⟩ := sma0_run (T := T) (U := U) hc.1 hl.1
    obtain ⟨t1, t2⟩ := sma1_run (V := V) (W := W) hc.2 hl.2
    have b1 : ((V.length : Int) != (W.length : Int)) = false := by rw [hl.1]; exact bne_self_eq_false _
    have b2 : ((T.length : Int) != (U.length : Int)) = false := by rw [hl.2]; exact bne_self_eq_false _
    rcases v2 with ⟨rfl, g2⟩ | ⟨g1, i, g2⟩
    · rcases t2 with ⟨rfl, g4⟩ | ⟨g3, j, g4⟩
      · simp [b2, v1, g2, t1, g4, Tr.val, Nat.beq]
      · simp [b2, v1, g2, t1, g3, g4, Tr.val, Nat.beq]
    · simp [b1, b2, v1, g1, g2, Tr.val, Nat.beq]
  · have d : decide (V = W ∧ T = U) = false := decide_eq_false fun ⟨e1, e2⟩ => hl ⟨by rw [e1], by rw [e2]⟩
    have b : (bif (V.length : Int) != (W.length : Int) then true else (T.length : Int) != (U.length : Int)) = true := by
      by_cases h1 : V.length = W.length
      · have h2 : ¬ T.length = U.length := fun h => hl ⟨h1, h⟩
        simp [h1]; omega
      · have : ((V.length : Int) != (W.length : Int)) = true := by simp; omega
        rw [this]; rfl
    simp only [d, b, cond_true, Tr.val]
noncomputable def smac_g : List AV → Option (Tr AV)
  | [.ag [.d _ _ (.prod (.int .i64) (.prod (.int .i64) (.int .i64))) V, .d _ _ (.prod (.int .i64) (.prod (.int .i64) (.int .i64))) T], .ag [.d _ _ (.prod (.int .i64) (.prod (.int .i64) (.int .i64))) W, .d _ _ (.prod (.int .i64) (.prod (.int .i64) (.int .i64))) U]] => some (.br (decide ((V.length : Int) ≤ 9223372036854775806) && decide ((T.length : Int) ≤ 9223372036854775806)) (.ret (.one (.v false (.bool (smE V T W U))))) (.bad 900))
  | _ => none
set_option maxHeartbeats 4000000 in
theorem smac_ok : FunOK Try.prog 29 smac_g := by
  refine fun_ok (by kernel_rfl) (meW_S52_ok) (meA_L55_ok) 9 (On := (opens [])) (fun args t h => ?_)
  unfold smac_g at h
  split at h
  · rename_i _ _ V _ _ T _ _ W _ _ U
    simp only [Option.some.injEq] at h
    subst h
    refine ⟨[.ag [.d false false (.prod (.int .i64) (.prod (.int .i64) (.int .i64))) V, .d false false (.prod (.int .i64) (.prod (.int .i64) (.int .i64))) T], .ag [.d false false (.prod (.int .i64) (.prod (.int .i64) (.int .i64))) W, .d false false (.prod (.int .i64) (.prod (.int .i64) (.int .i64))) U]], rfl, fun fr w us h => h, fun r hr => ?_⟩
    obtain ⟨hc, hr⟩ := br_bad hr
    simp only [Tr.val, Option.some.injEq] at hr
    subst hr
    rw [smac_tree]
    exact smac_val V T W U hc
  · cases h
noncomputable def meA_S56 : Sums := addS 29 smac_g meW_S52
theorem meA_S56_ok : SumOK Try.prog meA_S56 := addS_ok (smac_ok) (meW_S52_ok)
set_option maxRecDepth 100000 in
theorem smbc_tree (V : (Ty.list (.prod (.int .i64) (.prod (.int .i64) (.int .i64)))).den) (T : (Ty.list (.prod (.int .i64) (.prod (.int .i64) (.int .i64)))).den) (W : (Ty.list (.prod (.int .i64) (.prod (.int .i64) (.int .i64)))).den) (U : (Ty.list (.prod (.int .i64) (.prod (.int .i64) (.int .i64)))).den) : evalF Try.prog meA_S56 (opens []) meA_L55 9 27 [.ag [.d false false (.prod (.int .i64) (.prod (.int .i64) (.int .i64))) V, .d false false (.prod (.int .i64) (.prod (.int .i64) (.int .i64))) T], .ag [.d false false (.prod (.int .i64) (.prod (.int .i64) (.int .i64))) W, .d false false (.prod (.int .i64) (.prod (.int .i64) (.int .i64))) U]] = .br ((bif bif (↑(List.length V) : Int) != (↑(List.length W) : Int) then true else (↑(List.length T) : Int) != (↑(List.length U) : Int) then true else ((smb0_cond ((↑(List.length V) : Int), W, U, V, T) (false, (0 : Int))) && (bif Nat.beq (Prod.fst (smb0_g ((↑(List.length V) : Int), W, U, V, T) (false, (0 : Int)))) (0 : Nat) then true else ((Nat.beq (Prod.fst (smb0_g ((↑(List.length V) : Int), W, U, V, T) (false, (0 : Int)))) (1 : Nat)) && ((smb1_cond ((↑(List.length T) : Int), W, U, V, T) (Prod.fst (Prod.snd (smb0_g ((↑(List.length V) : Int), W, U, V, T) (false, (0 : Int)))), (0 : Int))) && (bif Nat.beq (Prod.fst (smb1_g ((↑(List.length T) : Int), W, U, V, T) (Prod.fst (Prod.snd (smb0_g ((↑(List.length V) : Int), W, U, V, T) (false, (0 : Int)))), (0 : Int)))) (0 : Nat) then true else (Nat.beq (Prod.fst (smb1_g ((↑(List.length T) : Int), W, U, V, T) (Prod.fst (Prod.snd (smb0_g ((↑(List.length V) : Int), W, U, V, T) (false, (0 : Int)))), (0 : Int)))) (1 : Nat))))))))) (.ret (.one (.v false (.bool (bif bif (↑(List.length V) : Int) != (↑(List.length W) : Int) then true else (↑(List.length T) : Int) != (↑(List.length U) : Int) then false else bif Nat.beq (Prod.fst (smb0_g ((↑(List.length V) : Int), W, U, V, T) (false, (0 : Int)))) (0 : Nat) then Prod.fst (Prod.snd (smb0_g ((↑(List.length V) : Int), W, U, V, T) (false, (0 : Int)))) else bif Nat.beq (Prod.fst (smb1_g ((↑(List.length T) : Int), W, U, V, T) (Prod.fst (Prod.snd (smb0_g ((↑(List.length V) : Int), W, U, V, T) (false, (0 : Int)))), (0 : Int)))) (0 : Nat) then Prod.fst (Prod.snd (smb1_g ((↑(List.length T) : Int), W, U, V, T) (Prod.fst (Prod.snd (smb0_g ((↑(List.length V) : Int), W, U, V, T) (false, (0 : Int)))), (0 : Int)))) else true))))) (.bad 116) := by kernel_rfl
theorem smbc_val (V : (Ty.list (.prod (.int .i64) (.prod (.int .i64) (.int .i64)))).den) (T : (Ty.list (.prod (.int .i64) (.prod (.int .i64) (.int .i64)))).den) (W : (Ty.list (.prod (.int .i64) (.prod (.int .i64) (.int .i64)))).den) (U : (Ty.list (.prod (.int .i64) (.prod (.int .i64) (.int .i64)))).den) (hc : (decide ((V.length : Int) ≤ 9223372036854775806) && decide ((T.length : Int) ≤ 9223372036854775806)) = true) : (.br ((bif bif (↑(List.length V) : Int) != (↑(List.length W) : Int) then true else (↑(List.length T) : Int) != (↑(List.length U) : Int) then true else ((smb0_cond ((↑(List.length V) : Int), W, U, V, T) (false, (0 : Int))) && (bif Nat.beq (Prod.fst (smb0_g ((↑(List.length V) : Int), W, U, V, T) (false, (0 : Int)))) (0 : Nat) then true else ((Nat.beq (Prod.fst (smb0_g ((↑(List.length V) : Int), W, U, V, T) (false, (0 : Int)))) (1 : Nat)) && ((smb1_cond ((↑(List.length T) : Int), W, U, V, T) (Prod.fst (Prod.snd (smb0_g ((↑(List.length V) : Int), W, U, V, T) (false, (0 : Int)))), (0 : Int))) && (bif Nat.beq (Prod.fst (smb1_g ((↑(List.length T) : Int), W, U, V, T) (Prod.fst (Prod.snd (smb0_g ((↑(List.length V) : Int), W, U, V, T) (false, (0 : Int)))), (0 : Int)))) (0 : Nat) then true else (Nat.beq (Prod.fst (smb1_g ((↑(List.length T) : Int), W, U, V, T) (Prod.fst (Prod.snd (smb0_g ((↑(List.length V) : Int), W, U, V, T) (false, (0 : Int)))), (0 : Int)))) (1 : Nat))))))))) (.ret (.one (.v false (.bool (bif bif (↑(List.length V) : Int) != (↑(List.length W) : Int) then true else (↑(List.length T) : Int) != (↑(List.length U) : Int) then false else bif Nat.beq (Prod.fst (smb0_g ((↑(List.length V) : Int), W, U, V, T) (false, (0 : Int)))) (0 : Nat) then Prod.fst (Prod.snd (smb0_g ((↑(List.length V) : Int), W, U, V, T) (false, (0 : Int)))) else bif Nat.beq (Prod.fst (smb1_g ((↑(List.length T) : Int), W, U, V, T) (Prod.fst (Prod.snd (smb0_g ((↑(List.length V) : Int), W, U, V, T) (false, (0 : Int)))), (0 : Int)))) (0 : Nat) then Prod.fst (Prod.snd (smb1_g ((↑(List.length T) : Int), W, U, V, T) (Prod.fst (Prod.snd (smb0_g ((↑(List.length V) : Int), W, U, V, T) (false, (0 : Int)))), (0 : Int)))) else true))))) (.bad 116) : Tr AV).val = some (.one (.v false (.bool (smE V T W U)))) := by
  simp only [Bool.and_eq_true, decide_eq_true_eq] at hc
  show cond _ _ _ = _
  unfold smE
  by_cases hl : V.length = W.length ∧ T.length = U.length
  · obtain ⟨v1, v2⟩ := smb0_run (T := T) (U := U) hc.1 hl.1
    obtain ⟨t1, t2⟩ := smb1_run (V := V) (W := W) hc.2 hl.2
    have b1 : ((V.length : Int) != (W.length : Int)) = false := by rw [hl.1]; exact bne_self_eq_false _
    have b2 : ((T.length : Int) != (U.length : Int)) = false := by rw [hl.2]; exact bne_self_eq_false _
    rcases v2 with ⟨rfl, g2⟩ | ⟨g1, i, g2⟩
    · rcases t2 with ⟨rfl, g4⟩ | ⟨g3, j, g4⟩
      · simp [b2, v1, g2, t1, g4, Tr.val, Nat.beq]
      · simp [b2, v1, g2, t1, g3, g4, Tr.val, Nat.beq]
    · simp [b1, b2, v1, g1, g2, Tr.val, Nat.beq]
  · have d : decide (V = W ∧ T = U) = false := decide_eq_false fun ⟨e1, e2⟩ => hl ⟨by rw [e1], by rw [e2]⟩
    have b : (bif (V.length : Int) != (W.length : Int) then true else (T.length : Int) != (U.length : Int)) = true := by
      by_cases h1 : V.length = W.length
      · have h2 : ¬ T.length = U.length := fun h => hl ⟨h1, h⟩
        simp [h1]; omega
      · have : ((V.length : Int) != (W.length : Int)) = true := by simp; omega
        rw [this]; rfl
    simp only [d, b, cond_true, Tr.val]
noncomputable def smbc_g : List AV → Option (Tr AV)
  | [.ag [.d _ _ (.prod (.int .i64) (.prod (.int .i64) (.int .i64))) V, .d _ _ (.prod (.int .i64) (.prod (.int .i64) (.int .i64))) T], .ag [.d _ _ (.prod (.int .i64) (.prod (.int .i64) (.int .i64))) W, .d _ _ (.prod (.int .i64) (.prod (.int .i64) (.int .i64))) U]] => some (.br (decide ((V.length : Int) ≤ 9223372036854775806) && decide ((T.length : Int) ≤ 9223372036854775806)) (.ret (.one (.v false (.bool (smE V T W U))))) (.bad 900))
  | _ => none
set_option maxHeartbeats 4000000 in
theorem smbc_ok : FunOK Try.prog 27 smbc_g := by
  refine fun_ok (by kernel_rfl) (meA_S56_ok) (meA_L55_ok) 9 (On := (opens [])) (fun args t h => ?_)
  unfold smbc_g at h
  split at h
  · rename_i _ _ V _ _ T _ _ W _ _ U
    simp only [Option.some.injEq] at h
    subst h
    refine ⟨[.ag [.d false false (.prod (.int .i64) (.prod (.int .i64) (.int .i64))) V, .d false false (.prod (.int .i64) (.prod (.int .i64) (.int .i64))) T], .ag [.d false false (.prod (.int .i64) (.prod (.int .i64) (.int .i64))) W, .d false false (.prod (.int .i64) (.prod (.int .i64) (.int .i64))) U]], rfl, fun fr w us h => h, fun r hr => ?_⟩
    obtain ⟨hc, hr⟩ := br_bad hr
    simp only [Tr.val, Option.some.injEq] at hr
    subst hr
    rw [smbc_tree]
    exact smbc_val V T W U hc
  · cases h
noncomputable def meA_S57 : Sums := addS 27 smbc_g meA_S56
theorem meA_S57_ok : SumOK Try.prog meA_S57 := addS_ok (smbc_ok) (meA_S56_ok)
set_option maxRecDepth 100000 in
theorem rrc_tree (V : (Ty.list (.prod (.int .i64) (.prod (.int .i64) (.int .i64)))).den) (T : (Ty.list (.prod (.int .i64) (.prod (.int .i64) (.int .i64)))).den) : evalF Try.prog meA_S57 (opens []) meA_L55 9 28 [.ag [.d false false (.prod (.int .i64) (.prod (.int .i64) (.int .i64))) V, .d false false (.prod (.int .i64) (.prod (.int .i64) (.int .i64))) T]] = .br ((bif chk V T != (0 : Int) then true else ((decide (((0 : Nat) + List.length V) * (24 : Nat) ≤ maxNew) && decide ((0 : Nat) + List.length V ≤ maxLen)) && ((rrv_cond (T, (↑(List.length T) : Int), V) ((0 : Int), [])) && (Nat.beq (Prod.fst (rrv_g (T, (↑(List.length T) : Int), V) ((0 : Int), []))) (0 : Nat)))))) (.ret (.ag [.d false false (.prod (.int .i64) (.prod (.int .i64) (.int .i64))) (bif chk V T != (0 : Int) then [] else V), .d false false (.prod (.int .i64) (.prod (.int .i64) (.int .i64))) (bif chk V T != (0 : Int) then [] else Prod.snd (Prod.snd (rrv_g (T, (↑(List.length T) : Int), V) ((0 : Int), []))))])) (.bad 116) := by kernel_rfl
set_option maxHeartbeats 4000000 in
theorem rrc_val (V : (Ty.list (.prod (.int .i64) (.prod (.int .i64) (.int .i64)))).den) (T : (Ty.list (.prod (.int .i64) (.prod (.int .i64) (.int .i64)))).den) : (.br ((bif chk V T != (0 : Int) then true else ((decide (((0 : Nat) + List.length V) * (24 : Nat) ≤ maxNew) && decide ((0 : Nat) + List.length V ≤ maxLen)) && ((rrv_cond (T, (↑(List.length T) : Int), V) ((0 : Int), [])) && (Nat.beq (Prod.fst (rrv_g (T, (↑(List.length T) : Int), V) ((0 : Int), []))) (0 : Nat)))))) (.ret (.ag [.d false false (.prod (.int .i64) (.prod (.int .i64) (.int .i64))) (bif chk V T != (0 : Int) then [] else V), .d false false (.prod (.int .i64) (.prod (.int .i64) (.int .i64))) (bif chk V T != (0 : Int) then [] else Prod.snd (Prod.snd (rrv_g (T, (↑(List.length T) : Int), V) ((0 : Int), []))))])) (.bad 116) : Tr AV).val = some (.ag [.d false false (.prod (.int .i64) (.prod (.int .i64) (.int .i64))) (rvV V T), .d false false (.prod (.int .i64) (.prod (.int .i64) (.int .i64))) (rvL V T)]) := by
  show cond _ _ _ = _
  unfold rvV rvL
  by_cases h : chk V T = 0
  · obtain ⟨r1, r2⟩ := rrv_run (V := V) (T := T) h
    obtain ⟨c1, c2⟩ := capV (chk0 h).1
    simp only [h, r1, r2, c1, c2, bne_self_eq_false, cond_false, Nat.beq, Nat.zero_add, Bool.and_self, Tr.val, cond_true]
  · simp only [bne0 h, cond_true, Tr.val]
noncomputable def rrc_g : List AV → Option (Tr AV)
  | [.ag [.d _ _ (.prod (.int .i64) (.prod (.int .i64) (.int .i64))) V, .d _ _ (.prod (.int .i64) (.prod (.int .i64) (.int .i64))) T]] => some (.ret (.ag [.d false false (.prod (.int .i64) (.prod (.int .i64) (.int .i64))) (rvV V T), .d false false (.prod (.int .i64) (.prod (.int .i64) (.int .i64))) (rvL V T)]))
  | _ => none
set_option maxHeartbeats 4000000 in
theorem rrc_ok : FunOK Try.prog 28 rrc_g := by
  refine fun_ok (by kernel_rfl) (meA_S57_ok) (meA_L55_ok) 9 (On := (opens [])) (fun args t h => ?_)
  unfold rrc_g at h
  split at h
  · rename_i _ _ V _ _ T
    simp only [Option.some.injEq] at h
    subst h
    refine ⟨[.ag [.d false false (.prod (.int .i64) (.prod (.int .i64) (.int .i64))) V, .d false false (.prod (.int .i64) (.prod (.int .i64) (.int .i64))) T]], rfl, fun fr w us h => h, fun r hr => ?_⟩
    simp only [Tr.val, Option.some.injEq] at hr
    subst hr
    rw [rrc_tree]
    exact rrc_val V T
  · cases h
noncomputable def meA_S58 : Sums := addS 28 rrc_g meA_S57
theorem meA_S58_ok : SumOK Try.prog meA_S58 := addS_ok (rrc_ok) (meA_S57_ok)
end Go.Proofs.Ytmdjakacpcnhmaa
