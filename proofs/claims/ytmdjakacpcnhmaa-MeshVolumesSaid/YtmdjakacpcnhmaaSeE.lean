/-
  Layer 15: SectionCounts, SectionReversed.
-/
import Derived.Test.YtmdjakacpcnhmaaProg
import Derived.Test.YtmdjakacpcnhmaaFvX
import Derived.Test.YtmdjakacpcnhmaaFvZ
import Derived.Test.YtmdjakacpcnhmaaAut
import Derived.Test.YtmdjakacpcnhmaaRd
import Derived.Test.YtmdjakacpcnhmaaPl
import Derived.Test.YtmdjakacpcnhmaaSeA
import Derived.Test.YtmdjakacpcnhmaaSeB
import Derived.Test.YtmdjakacpcnhmaaSeC
import Derived.Test.YtmdjakacpcnhmaaSeD
namespace Go.Proofs.Ytmdjakacpcnhmaa
open Go
abbrev cou_U : Type := Int × Bool × (Ty.list (.prod (.int .i64) (.prod (.int .i64) (.int .i64)))).den × (Ty.list (.prod (.int .i64) (.prod (.int .i64) (.int .i64)))).den
abbrev cou_V : Type := Int × Int
noncomputable def cou_St (u : cou_U) (v : cou_V) : Stt := ⟨[.one .junk, .one (.v false (.int .i64 u.1)), .one (.p 0 0), .one .junk, .one (.v false (.bool u.2.1)), .one (.v false (.int .i64 v.1)), .one (.v false (.int .i64 v.2)), .one .junk, .one .junk, .one .junk, .one .junk, .one .junk, .one .junk, .one .junk, .one .junk, .one .junk, .one .junk, .one .junk, .one .junk, .one .junk, .one .junk, .one .junk, .one .junk, .one .junk, .one .junk, .one .junk, .one .junk, .one .junk, .one .junk, .one .junk, .one .junk, .one .junk, .one .junk, .one .junk, .one .junk, .one .junk, .one .junk, .one .junk, .one .junk, .one .junk, .one .junk, .one .junk, .one .junk, .one .junk, .one .junk, .one .junk, .one .junk, .one .junk, .one .junk, .one .junk, .one .junk, .one .junk, .one .junk, .one .junk, .one .junk, .one .junk, .one .junk, .one .junk, .one .junk, .one .junk, .one .junk, .one .junk, .one .junk, .one .junk, .one .junk, .one .junk, .one .junk, .one .junk, .one .junk, .one .junk, .one .junk, .one .junk, .one .junk, .one .junk, .one .junk, .one .junk, .one .junk, .one .junk, .one .junk, .one .junk, .one .junk, .one .junk, .one .junk, .one .junk, .one .junk, .one .junk, .one .junk, .one .junk, .one .junk, .one .junk, .one .junk, .one .junk, .one .junk, .one .junk, .one .junk, .one .junk, .one .junk, .one .junk, .one .junk, .one .junk, .one .junk, .one .junk], [(0, .cells [.d false false (.prod (.int .i64) (.prod (.int .i64) (.int .i64))) u.2.2.1, .d false false (.prod (.int .i64) (.prod (.int .i64) (.int .i64))) u.2.2.2])], 1020⟩
noncomputable def cou_step (u : cou_U) (v : cou_V) : Tr (cou_V ⊕ (Nat × cou_V)) :=
  match u, v with
  | (q0, _, q4, q5), (q2, q3) => .br (decide (q3 < (↑(List.length q5) : Int))) (.br (decide ((0 : Int) ≤ q3) && decide (q3 < (↑(List.length q5) : Int))) (.br (decide ((0 : Int) ≤ Prod.snd (Prod.snd (el_iii q5 q3))) && decide (Prod.snd (Prod.snd (el_iii q5 q3)) < (↑(List.length q4) : Int))) (.br (decide ((0 : Int) ≤ q3) && decide (q3 < (↑(List.length q5) : Int))) (.br (decide ((0 : Int) ≤ Prod.fst (Prod.snd (el_iii q5 q3))) && decide (Prod.fst (Prod.snd (el_iii q5 q3)) < (↑(List.length q4) : Int))) (.br (decide ((0 : Int) ≤ q3) && decide (q3 < (↑(List.length q5) : Int))) (.br (decide ((0 : Int) ≤ Prod.fst (el_iii q5 q3)) && decide (Prod.fst (el_iii q5 q3) < (↑(List.length q4) : Int))) (.br (bif decide ((if Prod.snd (Prod.snd (el_iii q4 (Prod.snd (Prod.snd (el_iii q5 q3))))) < if Prod.snd (Prod.snd (el_iii q4 (Prod.fst (Prod.snd (el_iii q5 q3))))) < Prod.snd (Prod.snd (el_iii q4 (Prod.fst (el_iii q5 q3)))) then Prod.snd (Prod.snd (el_iii q4 (Prod.fst (Prod.snd (el_iii q5 q3))))) else Prod.snd (Prod.snd (el_iii q4 (Prod.fst (el_iii q5 q3)))) then Prod.snd (Prod.snd (el_iii q4 (Prod.snd (Prod.snd (el_iii q5 q3))))) else if Prod.snd (Prod.snd (el_iii q4 (Prod.fst (Prod.snd (el_iii q5 q3))))) < Prod.snd (Prod.snd (el_iii q4 (Prod.fst (el_iii q5 q3)))) then Prod.snd (Prod.snd (el_iii q4 (Prod.fst (Prod.snd (el_iii q5 q3))))) else Prod.snd (Prod.snd (el_iii q4 (Prod.fst (el_iii q5 q3))))) ≤ q0) then decide (q0 < if Prod.snd (Prod.snd (el_iii q4 (Prod.snd (Prod.snd (el_iii q5 q3))))) > if Prod.snd (Prod.snd (el_iii q4 (Prod.fst (Prod.snd (el_iii q5 q3))))) > Prod.snd (Prod.snd (el_iii q4 (Prod.fst (el_iii q5 q3)))) then Prod.snd (Prod.snd (el_iii q4 (Prod.fst (Prod.snd (el_iii q5 q3))))) else Prod.snd (Prod.snd (el_iii q4 (Prod.fst (el_iii q5 q3)))) then Prod.snd (Prod.snd (el_iii q4 (Prod.snd (Prod.snd (el_iii q5 q3))))) else if Prod.snd (Prod.snd (el_iii q4 (Prod.fst (Prod.snd (el_iii q5 q3))))) > Prod.snd (Prod.snd (el_iii q4 (Prod.fst (el_iii q5 q3)))) then Prod.snd (Prod.snd (el_iii q4 (Prod.fst (Prod.snd (el_iii q5 q3))))) else Prod.snd (Prod.snd (el_iii q4 (Prod.fst (el_iii q5 q3))))) else false) (.ret (.inl (IntKind.wrap IntKind.i64 (q2 + (1 : Int)), IntKind.wrap IntKind.i64 (q3 + (1 : Int))))) (.ret (.inl (q2, IntKind.wrap IntKind.i64 (q3 + (1 : Int)))))) (.bad 29)) (.bad 29)) (.bad 29)) (.bad 29)) (.bad 29)) (.bad 29)) (.ret (.inr (0, (q2, q3))))
set_option maxRecDepth 100000 in
set_option maxHeartbeats 4000000 in
theorem cou_step_eq : ∀ (u : cou_U) (v : cou_V), (evalC Try.prog (evalB Try.prog seD_S54 (opens []) seD_L52 7).1 (evalB Try.prog seD_S54 (opens []) seD_L52 7).2 (opens []) (seD_L52 12) 100000 (0 :: [0, 1, 0, 1, 1, 1]) (loopOf (bodyOf Try.prog 12) [1, 1, 1, 0, 1, 0]) (cou_St u v) []).bind (finF [0, 3, 7, 8, 9, 10, 11, 12, 13, 14, 15, 16, 17, 18, 19, 20, 21, 22, 23, 24, 25, 26, 27, 28, 29, 30, 31, 32, 33, 34, 35, 36, 37, 38, 39, 40, 41, 42, 43, 44, 45, 46, 47, 48, 49, 50, 51, 52, 53, 54, 55, 56, 57, 58, 59, 60, 61, 62, 63, 64, 65, 66, 67, 68, 69, 70, 71, 72, 73, 74, 75, 76, 77, 78, 79, 80, 81, 82, 83, 84, 85, 86, 87, 88, 89, 90, 91, 92, 93, 94, 95, 96, 97, 98, 99, 100, 101] [] [0] [] 1020) = (cou_step u v).bind (outA (cou_St u) [.exit 0]) := by
  rintro ⟨q0, q1, q4, q5⟩ ⟨q2, q3⟩
  kernel_rfl
noncomputable def cou_rd (b : Bool) (o1 : Option AV) (o2 : Option AV) (o4 : Option AV) (o5 : Option AV) (o6 : Option AV) (own : Own) : Option (cou_U × cou_V) := zrT b <| zrO o1 fun za1 => zrA1 za1 fun zc2 => zrI .i64 zc2 fun q0 => zrO o2 fun za3 => zrA1 za3 fun zc4 => zrP 0 0 zc4 <| zrO o4 fun za5 => zrA1 za5 fun zc6 => zrB zc6 fun q1 => zrO o5 fun za7 => zrA1 za7 fun zc8 => zrI .i64 zc8 fun q2 => zrO o6 fun za9 => zrA1 za9 fun zc10 => zrI .i64 zc10 fun q3 => zrL own fun zq11 zw12 => zrKey 0 zq11 fun zk13 => zrC zk13 fun zl14 => zrL zl14 fun zc15 zr16 => zrD (.prod (.int .i64) (.prod (.int .i64) (.int .i64))) zc15 fun q4 => zrL zr16 fun zc17 zr18 => zrD (.prod (.int .i64) (.prod (.int .i64) (.int .i64))) zc17 fun q5 => zrN zr18 <| zrN zw12 <| some ((q0, q1, q4, q5), (q2, q3))
noncomputable def cou_can (st : Stt) : Stt := canA [0, 3, 7, 8, 9, 10, 11, 12, 13, 14, 15, 16, 17, 18, 19, 20, 21, 22, 23, 24, 25, 26, 27, 28, 29, 30, 31, 32, 33, 34, 35, 36, 37, 38, 39, 40, 41, 42, 43, 44, 45, 46, 47, 48, 49, 50, 51, 52, 53, 54, 55, 56, 57, 58, 59, 60, 61, 62, 63, 64, 65, 66, 67, 68, 69, 70, 71, 72, 73, 74, 75, 76, 77, 78, 79, 80, 81, 82, 83, 84, 85, 86, 87, 88, 89, 90, 91, 92, 93, 94, 95, 96, 97, 98, 99, 100, 101] [] [0] [] 1020 st
noncomputable def cou_cok (st : Stt) : Bool := canAok [0, 3, 7, 8, 9, 10, 11, 12, 13, 14, 15, 16, 17, 18, 19, 20, 21, 22, 23, 24, 25, 26, 27, 28, 29, 30, 31, 32, 33, 34, 35, 36, 37, 38, 39, 40, 41, 42, 43, 44, 45, 46, 47, 48, 49, 50, 51, 52, 53, 54, 55, 56, 57, 58, 59, 60, 61, 62, 63, 64, 65, 66, 67, 68, 69, 70, 71, 72, 73, 74, 75, 76, 77, 78, 79, 80, 81, 82, 83, 84, 85, 86, 87, 88, 89, 90, 91, 92, 93, 94, 95, 96, 97, 98, 99, 100, 101] [] [0] [] 1020 st
noncomputable def cou_read (st : Stt) : Option (cou_U × cou_V) := cou_rd (cou_cok st && (staysA [] [0] st.own && juAll [0, 3, 7, 8, 9, 10, 11, 12, 13, 14, 15, 16, 17, 18, 19, 20, 21, 22, 23, 24, 25, 26, 27, 28, 29, 30, 31, 32, 33, 34, 35, 36, 37, 38, 39, 40, 41, 42, 43, 44, 45, 46, 47, 48, 49, 50, 51, 52, 53, 54, 55, 56, 57, 58, 59, 60, 61, 62, 63, 64, 65, 66, 67, 68, 69, 70, 71, 72, 73, 74, 75, 76, 77, 78, 79, 80, 81, 82, 83, 84, 85, 86, 87, 88, 89, 90, 91, 92, 93, 94, 95, 96, 97, 98, 99, 100, 101] (cou_can st).tm 102)) (cou_can st).tm[1]? (cou_can st).tm[2]? (cou_can st).tm[4]? (cou_can st).tm[5]? (cou_can st).tm[6]? (cou_can st).own
set_option maxRecDepth 100000 in
set_option maxHeartbeats 4000000 in
theorem cou_rd_ok {b : Bool} {tm : List AV} {own : Own} {u : cou_U} {v : cou_V} (hj : b = true → juAll [0, 3, 7, 8, 9, 10, 11, 12, 13, 14, 15, 16, 17, 18, 19, 20, 21, 22, 23, 24, 25, 26, 27, 28, 29, 30, 31, 32, 33, 34, 35, 36, 37, 38, 39, 40, 41, 42, 43, 44, 45, 46, 47, 48, 49, 50, 51, 52, 53, 54, 55, 56, 57, 58, 59, 60, 61, 62, 63, 64, 65, 66, 67, 68, 69, 70, 71, 72, 73, 74, 75, 76, 77, 78, 79, 80, 81, 82, 83, 84, 85, 86, 87, 88, 89, 90, 91, 92, 93, 94, 95, 96, 97, 98, 99, 100, 101] tm 102 = true) (h : cou_rd b tm[1]? tm[2]? tm[4]? tm[5]? tm[6]? own = some (u, v)) : b = true ∧ tm = (cou_St u v).tm ∧ own = (cou_St u v).own := by
  unfold cou_rd at h
  obtain ⟨rfl, h0⟩ := zrT_some h
  obtain ⟨za1, e1, h1⟩ := zrO_some h0
  obtain ⟨zc2, rfl, h2⟩ := zrA1_some h1
  obtain ⟨q0, rfl, h3⟩ := zrI_some h2
  obtain ⟨za3, e2, h4⟩ := zrO_some h3
  obtain ⟨zc4, rfl, h5⟩ := zrA1_some h4
  obtain ⟨rfl, h6⟩ := zrP_some h5
  obtain ⟨za5, e4, h7⟩ := zrO_some h6
  obtain ⟨zc6, rfl, h8⟩ := zrA1_some h7
  obtain ⟨q1, rfl, h9⟩ := zrB_some h8
  obtain ⟨za7, e5, h10⟩ := zrO_some h9
  obtain ⟨zc8, rfl, h11⟩ := zrA1_some h10
  obtain ⟨q2, rfl, h12⟩ := zrI_some h11
  obtain ⟨za9, e6, h13⟩ := zrO_some h12
  obtain ⟨zc10, rfl, h14⟩ := zrA1_some h13
  obtain ⟨q3, rfl, h15⟩ := zrI_some h14
  obtain ⟨zq11, zw12, rfl, h16⟩ := zrL_some h15
  obtain ⟨zk13, rfl, h17⟩ := zrKey_some h16
  obtain ⟨zl14, rfl, h18⟩ := zrC_some h17
  obtain ⟨zc15, zr16, rfl, h19⟩ := zrL_some h18
  obtain ⟨q4, rfl, h20⟩ := zrD_some h19
  obtain ⟨zc17, zr18, rfl, h21⟩ := zrL_some h20
  obtain ⟨q5, rfl, h22⟩ := zrD_some h21
  obtain ⟨rfl, h23⟩ := zrN_some h22
  obtain ⟨rfl, h24⟩ := zrN_some h23
  have h := Option.some.inj h24
  have hu := congrArg Prod.fst h
  have hv := congrArg Prod.snd h
  dsimp only at hu hv
  subst hu
  subst hv
  exact ⟨rfl, (tm_fill (hj rfl) (Lv := [(1, .one (.v false (.int .i64 q0))), (2, .one (.p 0 0)), (4, .one (.v false (.bool q1))), (5, .one (.v false (.int .i64 q2))), (6, .one (.v false (.int .i64 q3)))]) (by kernel_rfl) ⟨e1, e2, e4, e5, e6, trivial⟩).trans (by kernel_rfl), rfl⟩
theorem cou_read_ok (st : Stt) (u : cou_U) (v : cou_V) (h : cou_read st = some (u, v)) : cou_cok st = true ∧ staysA [] [0] st.own = true ∧ cou_can st = cou_St u v := by
  obtain ⟨h1, h2, h3⟩ := cou_rd_ok (fun hb => by rw [Bool.and_eq_true, Bool.and_eq_true] at hb; exact hb.2.2) h
  rw [Bool.and_eq_true, Bool.and_eq_true] at h1
  refine ⟨h1.1, h1.2.1, ?_⟩
  have e : cou_can st = ⟨(cou_can st).tm, (cou_can st).own, 1020⟩ := by kernel_rfl
  rw [e, h2, h3]
  rfl
noncomputable def cou_cond (u : cou_U) (v : cou_V) : Bool := runC (cou_step u) v
noncomputable def cou_g (u : cou_U) (v : cou_V) : Nat × cou_V := runG (cou_step u) v
theorem cou_hg : ∀ (u : cou_U) (v : cou_V), cou_cond u v = true → loopN (cou_step u) ((fun u v => runF (cou_step u) v) u v) v = some (cou_g u v) := by
  exact fun u v h => run_hg h
noncomputable def cou_m (st : Stt) : Option (Tr (Ex × Stt)) := sumM cou_read cou_cond cou_St cou_g [(0, .exit 0)] st
noncomputable def seE_L51 : FuncId → Loops := addL 12 [0, 1, 0, 1, 1, 1] cou_m seD_L52
set_option maxRecDepth 100000 in
set_option maxHeartbeats 4000000 in
theorem seE_L51_ok : LoopsOK Try.prog seE_L51 :=
  loop_sumF (body := (bodyOf Try.prog 12)) (c := (loopOf (bodyOf Try.prog 12) [1, 1, 1, 0, 1, 0])) (kinds := [.exit 0]) (allow := [(0, .exit 0)]) (St := cou_St) (step := cou_step) (W := [0, 3, 7, 8, 9, 10, 11, 12, 13, 14, 15, 16, 17, 18, 19, 20, 21, 22, 23, 24, 25, 26, 27, 28, 29, 30, 31, 32, 33, 34, 35, 36, 37, 38, 39, 40, 41, 42, 43, 44, 45, 46, 47, 48, 49, 50, 51, 52, 53, 54, 55, 56, 57, 58, 59, 60, 61, 62, 63, 64, 65, 66, 67, 68, 69, 70, 71, 72, 73, 74, 75, 76, 77, 78, 79, 80, 81, 82, 83, 84, 85, 86, 87, 88, 89, 90, 91, 92, 93, 94, 95, 96, 97, 98, 99, 100, 101]) (As := []) (ks := [0]) (dd := []) (nx := 1020) (n := 100000) (g := cou_g) (cond := cou_cond) (fuel := (fun u v => runF (cou_step u) v)) (read := cou_read) (by kernel_rfl) (seD_S54_ok) (seD_L52_ok) 7 ⟨Try.f12, by kernel_rfl, by kernel_rfl⟩ (by kernel_rfl) (by kernel_rfl) (by kernel_rfl) cou_step_eq cou_hg cou_read_ok
abbrev rvs_U : Type := (Ty.list (.prod (.prod (.int .i64) (.int .i64)) (.prod (.int .i64) (.int .i64)))).den × (Ty.list (.prod (.prod (.int .i64) (.int .i64)) (.prod (.int .i64) (.int .i64)))).den
abbrev rvs_V : Type := Bool × Int
noncomputable def rvs_St (u : rvs_U) (v : rvs_V) : Stt := ⟨[.one .junk, .one .junk, .one .junk, .one .junk, .one (.v false (.bool v.1)), .one (.d false false (.prod (.prod (.int .i64) (.int .i64)) (.prod (.int .i64) (.int .i64))) u.1), .one .junk, .one (.d false false (.prod (.prod (.int .i64) (.int .i64)) (.prod (.int .i64) (.int .i64))) u.2), .one .junk, .one (.v false (.int .i64 v.2)), .one .junk, .one .junk, .one .junk, .one .junk, .one .junk, .one .junk, .one .junk, .one .junk, .one .junk, .one .junk, .one .junk, .one .junk, .one .junk, .one .junk, .one .junk, .one .junk, .one .junk, .one .junk, .one .junk, .one .junk, .one .junk, .one .junk, .one .junk, .one .junk, .one .junk, .one .junk, .one .junk, .one .junk, .one .junk, .one .junk, .one .junk, .one .junk, .one .junk, .one .junk, .one .junk, .one .junk, .one .junk, .one .junk, .one .junk, .one .junk, .one .junk, .one .junk, .one .junk, .one .junk, .one .junk, .one .junk, .one .junk, .one .junk, .one .junk, .one .junk, .one .junk, .one .junk, .one .junk, .one .junk, .one .junk, .one .junk, .one .junk, .one .junk, .one .junk, .one .junk, .one .junk, .one .junk, .one .junk], [(0, .dead)], 1038⟩
def el_iiii (l : (Ty.list (Ty.prod (Ty.prod (Ty.int IntKind.i64) (Ty.int IntKind.i64)) (Ty.prod (Ty.int IntKind.i64) (Ty.int IntKind.i64)))).den) (i : Int) : ((Int × Int) × (Int × Int)) := elm (Ty.prod (Ty.prod (Ty.int IntKind.i64) (Ty.int IntKind.i64)) (Ty.prod (Ty.int IntKind.i64) (Ty.int IntKind.i64))) l i
noncomputable def rvs_step (u : rvs_U) (v : rvs_V) : Tr (rvs_V ⊕ (Nat × rvs_V)) :=
  match u, v with
  | (q1, q2), (q0, q3) => .br (decide (q3 < (↑(List.length q1) : Int))) (.br (decide ((0 : Int) ≤ q3) && decide (q3 < (↑(List.length q1) : Int))) (.br (decide ((0 : Int) ≤ q3) && decide (q3 < (↑(List.length q2) : Int))) (.br ((bif !(Prod.fst (Prod.fst (el_iiii q1 q3)) == Prod.fst (Prod.snd (el_iiii q2 q3)) && (Prod.snd (Prod.fst (el_iiii q1 q3)) == Prod.snd (Prod.snd (el_iiii q2 q3)) && true)) then true else ((decide ((0 : Int) ≤ q3) && decide (q3 < (↑(List.length q1) : Int))) && (decide ((0 : Int) ≤ q3) && decide (q3 < (↑(List.length q2) : Int)))))) (.br (bif !(Prod.fst (Prod.fst (el_iiii q1 q3)) == Prod.fst (Prod.snd (el_iiii q2 q3)) && (Prod.snd (Prod.fst (el_iiii q1 q3)) == Prod.snd (Prod.snd (el_iiii q2 q3)) && true)) then true else !(Prod.fst (Prod.snd (el_iiii q1 q3)) == Prod.fst (Prod.fst (el_iiii q2 q3)) && (Prod.snd (Prod.snd (el_iiii q1 q3)) == Prod.snd (Prod.fst (el_iiii q2 q3)) && true))) (.ret (.inr (0, (false, q3)))) (.ret (.inl (q0, IntKind.wrap IntKind.i64 (q3 + (1 : Int)))))) (.bad 117)) (.bad 29)) (.bad 29)) (.ret (.inr (1, (q0, q3))))
set_option maxRecDepth 100000 in
set_option maxHeartbeats 4000000 in
theorem rvs_step_eq : ∀ (u : rvs_U) (v : rvs_V), (evalC Try.prog (evalB Try.prog seD_S54 (opens []) seE_L51 7).1 (evalB Try.prog seD_S54 (opens []) seE_L51 7).2 (opens []) (seE_L51 11) 100000 (0 :: [0, 1, 0, 1, 1, 1, 1, 1]) (loopOf (bodyOf Try.prog 11) [1, 1, 1, 1, 1, 0, 1, 0]) (rvs_St u v) []).bind (finF [0, 1, 2, 3, 6, 8, 10, 11, 12, 13, 14, 15, 16, 17, 18, 19, 20, 21, 22, 23, 24, 25, 26, 27, 28, 29, 30, 31, 32, 33, 34, 35, 36, 37, 38, 39, 40, 41, 42, 43, 44, 45, 46, 47, 48, 49, 50, 51, 52, 53, 54, 55, 56, 57, 58, 59, 60, 61, 62, 63, 64, 65, 66, 67, 68, 69, 70, 71, 72] [] [0] [0] 1038) = (rvs_step u v).bind (outA (rvs_St u) [.ret, .exit 0]) := by
  rintro ⟨q1, q2⟩ ⟨q0, q3⟩
  kernel_rfl
noncomputable def rvs_rd (b : Bool) (o4 : Option AV) (o5 : Option AV) (o7 : Option AV) (o9 : Option AV) (own : Own) : Option (rvs_U × rvs_V) := zrT b <| zrO o4 fun za1 => zrA1 za1 fun zc2 => zrB zc2 fun q0 => zrO o5 fun za3 => zrA1 za3 fun zc4 => zrD (.prod (.prod (.int .i64) (.int .i64)) (.prod (.int .i64) (.int .i64))) zc4 fun q1 => zrO o7 fun za5 => zrA1 za5 fun zc6 => zrD (.prod (.prod (.int .i64) (.int .i64)) (.prod (.int .i64) (.int .i64))) zc6 fun q2 => zrO o9 fun za7 => zrA1 za7 fun zc8 => zrI .i64 zc8 fun q3 => zrL own fun zq9 zw10 => zrKey 0 zq9 fun zk11 => zrX zk11 <| zrN zw10 <| some ((q1, q2), (q0, q3))
noncomputable def rvs_can (st : Stt) : Stt := canA [0, 1, 2, 3, 6, 8, 10, 11, 12, 13, 14, 15, 16, 17, 18, 19, 20, 21, 22, 23, 24, 25, 26, 27, 28, 29, 30, 31, 32, 33, 34, 35, 36, 37, 38, 39, 40, 41, 42, 43, 44, 45, 46, 47, 48, 49, 50, 51, 52, 53, 54, 55, 56, 57, 58, 59, 60, 61, 62, 63, 64, 65, 66, 67, 68, 69, 70, 71, 72] [] [0] [0] 1038 st
noncomputable def rvs_cok (st : Stt) : Bool := canAok [0, 1, 2, 3, 6, 8, 10, 11, 12, 13, 14, 15, 16, 17, 18, 19, 20, 21, 22, 23, 24, 25, 26, 27, 28, 29, 30, 31, 32, 33, 34, 35, 36, 37, 38, 39, 40, 41, 42, 43, 44, 45, 46, 47, 48, 49, 50, 51, 52, 53, 54, 55, 56, 57, 58, 59, 60, 61, 62, 63, 64, 65, 66, 67, 68, 69, 70, 71, 72] [] [0] [0] 1038 st
noncomputable def rvs_read (st : Stt) : Option (rvs_U × rvs_V) := rvs_rd (rvs_cok st && (staysA [] [0] st.own && juAll [0, 1, 2, 3, 6, 8, 10, 11, 12, 13, 14, 15, 16, 17, 18, 19, 20, 21, 22, 23, 24, 25, 26, 27, 28, 29, 30, 31, 32, 33, 34, 35, 36, 37, 38, 39, 40, 41, 42, 43, 44, 45, 46, 47, 48, 49, 50, 51, 52, 53, 54, 55, 56, 57, 58, 59, 60, 61, 62, 63, 64, 65, 66, 67, 68, 69, 70, 71, 72] (rvs_can st).tm 73)) (rvs_can st).tm[4]? (rvs_can st).tm[5]? (rvs_can st).tm[7]? (rvs_can st).tm[9]? (rvs_can st).own
set_option maxRecDepth 100000 in
set_option maxHeartbeats 4000000 in
theorem rvs_rd_ok {b : Bool} {tm : List AV} {own : Own} {u : rvs_U} {v : rvs_V} (hj : b = true → juAll [0, 1, 2, 3, 6, 8, 10, 11, 12, 13, 14, 15, 16, 17, 18, 19, 20, 21, 22, 23, 24, 25, 26, 27, 28, 29, 30, 31, 32, 33, 34, 35, 36, 37, 38, 39, 40, 41, 42, 43, 44, 45, 46, 47, 48, 49, 50, 51, 52, 53, 54, 55, 56, 57, 58, 59, 60, 61, 62, 63, 64, 65, 66, 67, 68, 69, 70, 71, 72] tm 73 = true) (h : rvs_rd b tm[4]? tm[5]? tm[7]? tm[9]? own = some (u, v)) : b = true ∧ tm = (rvs_St u v).tm ∧ own = (rvs_St u v).own := by
  unfold rvs_rd at h
  obtain ⟨rfl, h0⟩ := zrT_some h
  obtain ⟨za1, e4, h1⟩ := zrO_some h0
  obtain ⟨zc2, rfl, h2⟩ := zrA1_some h1
  obtain ⟨q0, rfl, h3⟩ := zrB_some h2
  obtain ⟨za3, e5, h4⟩ := zrO_some h3
  obtain ⟨zc4, rfl, h5⟩ := zrA1_some h4
  obtain ⟨q1, rfl, h6⟩ := zrD_some h5
  obtain ⟨za5, e7, h7⟩ := zrO_some h6
  obtain ⟨zc6, rfl, h8⟩ := zrA1_some h7
  obtain ⟨q2, rfl, h9⟩ := zrD_some h8
  obtain ⟨za7, e9, h10⟩ := zrO_some h9
  obtain ⟨zc8, rfl, h11⟩ := zrA1_some h10
  obtain ⟨q3, rfl, h12⟩ := zrI_some h11
  obtain ⟨zq9, zw10, rfl, h13⟩ := zrL_some h12
  obtain ⟨zk11, rfl, h14⟩ := zrKey_some h13
  obtain ⟨rfl, h15⟩ := zrX_some h14
  obtain ⟨rfl, h16⟩ := zrN_some h15
  have h := Option.some.inj h16
  have hu := congrArg Prod.fst h
  have hv := congrArg Prod.snd h
  dsimp only at hu hv
  subst hu
  subst hv
  exact ⟨rfl, (tm_fill (hj rfl) (Lv := [(4, .one (.v false (.bool q0))), (5, .one (.d false false (.prod (.prod (.int .i64) (.int .i64)) (.prod (.int .i64) (.int .i64))) q1)), (7, .one (.d false false (.prod (.prod (.int .i64) (.int .i64)) (.prod (.int .i64) (.int .i64))) q2)), (9, .one (.v false (.int .i64 q3)))]) (by kernel_rfl) ⟨e4, e5, e7, e9, trivial⟩).trans (by kernel_rfl), rfl⟩
theorem rvs_read_ok (st : Stt) (u : rvs_U) (v : rvs_V) (h : rvs_read st = some (u, v)) : rvs_cok st = true ∧ staysA [] [0] st.own = true ∧ rvs_can st = rvs_St u v := by
  obtain ⟨h1, h2, h3⟩ := rvs_rd_ok (fun hb => by rw [Bool.and_eq_true, Bool.and_eq_true] at hb; exact hb.2.2) h
  rw [Bool.and_eq_true, Bool.and_eq_true] at h1
  refine ⟨h1.1, h1.2.1, ?_⟩
  have e : rvs_can st = ⟨(rvs_can st).tm, (rvs_can st).own, 1038⟩ := by kernel_rfl
  rw [e, h2, h3]
  rfl
noncomputable def rvs_cond (u : rvs_U) (v : rvs_V) : Bool := runC (rvs_step u) v
noncomputable def rvs_g (u : rvs_U) (v : rvs_V) : Nat × rvs_V := runG (rvs_step u) v
theorem rvs_hg : ∀ (u : rvs_U) (v : rvs_V), rvs_cond u v = true → loopN (rvs_step u) ((fun u v => runF (rvs_step u) v) u v) v = some (rvs_g u v) := by
  exact fun u v h => run_hg h
noncomputable def rvs_m (st : Stt) : Option (Tr (Ex × Stt)) := sumM rvs_read rvs_cond rvs_St rvs_g [(0, .ret), (1, .exit 0)] st
noncomputable def seE_L52 : FuncId → Loops := addL 11 [0, 1, 0, 1, 1, 1, 1, 1] rvs_m seE_L51
set_option maxRecDepth 100000 in
set_option maxHeartbeats 4000000 in
theorem seE_L52_ok : LoopsOK Try.prog seE_L52 :=
  loop_sumF (body := (bodyOf Try.prog 11)) (c := (loopOf (bodyOf Try.prog 11) [1, 1, 1, 1, 1, 0, 1, 0])) (kinds := [.ret, .exit 0]) (allow := [(0, .ret), (1, .exit 0)]) (St := rvs_St) (step := rvs_step) (W := [0, 1, 2, 3, 6, 8, 10, 11, 12, 13, 14, 15, 16, 17, 18, 19, 20, 21, 22, 23, 24, 25, 26, 27, 28, 29, 30, 31, 32, 33, 34, 35, 36, 37, 38, 39, 40, 41, 42, 43, 44, 45, 46, 47, 48, 49, 50, 51, 52, 53, 54, 55, 56, 57, 58, 59, 60, 61, 62, 63, 64, 65, 66, 67, 68, 69, 70, 71, 72]) (As := []) (ks := [0]) (dd := [0]) (nx := 1038) (n := 100000) (g := rvs_g) (cond := rvs_cond) (fuel := (fun u v => runF (rvs_step u) v)) (read := rvs_read) (by kernel_rfl) (seD_S54_ok) (seE_L51_ok) 7 ⟨Try.f11, by kernel_rfl, by kernel_rfl⟩ (by kernel_rfl) (by kernel_rfl) (by kernel_rfl) rvs_step_eq rvs_hg rvs_read_ok
def mnx (a b c z : Int) : Bool := bif decide ((if c < if b < a then b else a then c else if b < a then b else a) ≤ z) then decide (z < if c > if b > a then b else a then c else if b > a then b else a) else false
def swp (s : (Int × Int) × (Int × Int)) : (Int × Int) × (Int × Int) := (s.2, s.1)
theorem mnx_eq (a b c z : Int) : mnx a b c z = decide ((a ≤ z ∧ z < b) ∨ (b ≤ z ∧ z < c) ∨ (c ≤ z ∧ z < a)) := by
  unfold mnx
  rw [Bool.eq_iff_iff]
  by_cases h1 : b < a <;> by_cases h2 : b > a <;> simp only [h1, h2, if_true, if_false] <;> simp [Bool.cond_eq_ite] <;> omega
theorem vOk_at {V : List (Int × (Int × Int))} (h : vGood V = true) {i : Int} (h0 : 0 ≤ i) (h1 : i < V.length) : vOk (el_iii V i).1 (el_iii V i).2.1 (el_iii V i).2.2 = true := by
  obtain ⟨k, rfl⟩ : ∃ k : Nat, i = k := ⟨i.toNat, by omega⟩
  have hk : k < V.length := by omega
  rw [el_get hk]
  exact List.all_eq_true.1 h _ (List.getElem_mem hk)
theorem up_eq {p q : Int × (Int × Int)} {z : Int} (hp : vOk p.1 p.2.1 p.2.2 = true) (hq : vOk q.1 q.2.1 q.2.2 = true) : up p q z = decide (p.2.2 ≤ z ∧ z < q.2.2) := by
  unfold up sB
  rw [hp, hq, Bool.eq_iff_iff]
  simp [Bool.cond_eq_ite]
  try omega
theorem up_lt {p q : Int × (Int × Int)} {z : Int} (h : up p q z = true) : p.2.2 ≤ z ∧ z < q.2.2 := by
  unfold up at h
  obtain ⟨_, _, _, h1, h2⟩ := sB_false (by simpa using h)
  exact ⟨h1, h2⟩
theorem crs_eq {p q r : Int × (Int × Int)} {z : Int} (hp : vOk p.1 p.2.1 p.2.2 = true) (hq : vOk q.1 q.2.1 q.2.2 = true) (hr : vOk r.1 r.2.1 r.2.2 = true) : crs p q r z = mnx p.2.2 q.2.2 r.2.2 z := by
  unfold crs
  rw [up_eq hp hq, up_eq hq hr, up_eq hr hp, mnx_eq]
  rw [Bool.eq_iff_iff]
  simp
theorem crs_swap {p q r : Int × (Int × Int)} {z : Int} (hp : vOk p.1 p.2.1 p.2.2 = true) (hq : vOk q.1 q.2.1 q.2.2 = true) (hr : vOk r.1 r.2.1 r.2.2 = true) : crs p r q z = crs p q r z := by
  rw [crs_eq hp hq hr, crs_eq hp hr hq, mnx_eq, mnx_eq, Bool.eq_iff_iff]
  simp only [decide_eq_true_eq]
  try omega
theorem sel_rev {b2 b1 b0 : Bool} (h1 : ¬ (b2 = true ∧ b1 = true)) (h2 : ¬ (b2 = true ∧ b0 = true)) (h3 : ¬ (b1 = true ∧ b0 = true)) (a2 a1 a0 : Int) : sel b2 b1 b0 a2 a1 a0 = sel b0 b1 b2 a0 a1 a2 := by
  cases b2 <;> cases b1 <;> cases b0 <;> first | rfl | simp at h1 h2 h3
theorem sgm_swap (p q r : Int × (Int × Int)) (z : Int) : sgm p r q z = swp (sgm p q r z) := by
  have a1 : ¬ (up p q z = true ∧ up q r z = true) := fun h => by have := up_lt h.1; have := up_lt h.2; omega
  have a2 : ¬ (up p q z = true ∧ up r p z = true) := fun h => by have := up_lt h.1; have := up_lt h.2; omega
  have a3 : ¬ (up q r z = true ∧ up r p z = true) := fun h => by have := up_lt h.1; have := up_lt h.2; omega
  have c1 : ¬ (up q p z = true ∧ up r q z = true) := fun h => by have := up_lt h.1; have := up_lt h.2; omega
  have c2 : ¬ (up q p z = true ∧ up p r z = true) := fun h => by have := up_lt h.1; have := up_lt h.2; omega
  have c3 : ¬ (up r q z = true ∧ up p r z = true) := fun h => by have := up_lt h.1; have := up_lt h.2; omega
  unfold sgm swp
  dsimp only
  rw [sel_rev a1 a2 a3, sel_rev a1 a2 a3, sel_rev c1 c2 c3, sel_rev c1 c2 c3]
theorem cT_eq {V T : List (Int × (Int × Int))} (hv : vGood V = true) (ht : tGood V.length T = true) {j : Nat} (hj : j < T.length) (z : Int) : cT V T[j] z = mnx (el_iii V T[j].1).2.2 (el_iii V T[j].2.1).2.2 (el_iii V T[j].2.2).2.2 z := by
  obtain ⟨i1, i2, i3, i4, i5, i6⟩ := tOk_at ht hj
  exact crs_eq (vOk_at hv i1 i2) (vOk_at hv i3 i4) (vOk_at hv i5 i6)
theorem cuts_swap {V : List (Int × (Int × Int))} (hv : vGood V = true) (z : Int) : ∀ (T : List (Int × (Int × Int))), tGood V.length T = true → cuts V z (T.map rvT) = (cuts V z T).map swp
  | [], _ => rfl
  | t :: T, h => by
    unfold tGood at h
    rw [List.all_cons, Bool.and_eq_true] at h
    have ih := cuts_swap hv z T h.2
    obtain ⟨i1, i2, i3, i4, i5, i6⟩ := (of_decide_eq_true h.1 : 0 ≤ t.1 ∧ t.1 < (V.length : Int) ∧ 0 ≤ t.2.1 ∧ t.2.1 < (V.length : Int) ∧ 0 ≤ t.2.2 ∧ t.2.2 < (V.length : Int))
    have e1 : cT V (rvT t) z = cT V t z := crs_swap (vOk_at hv i1 i2) (vOk_at hv i3 i4) (vOk_at hv i5 i6)
    have e2 : sT V (rvT t) z = swp (sT V t z) := sgm_swap _ _ _ _
    unfold cuts at ih ⊢
    rw [List.map_cons, List.filterMap_cons, List.filterMap_cons, e1, e2]
    cases cT V t z
    · exact ih
    · simp only [cond_true, List.map_cons]; rw [ih]
theorem tGood_rev {n : Int} : ∀ {T : List (Int × (Int × Int))}, tGood n T = true → tGood n (T.map rvT) = true
  | [], _ => rfl
  | t :: T, h => by
    unfold tGood at h ⊢
    rw [List.all_cons, Bool.and_eq_true] at h
    rw [List.map_cons, List.all_cons, Bool.and_eq_true]
    refine ⟨?_, tGood_rev h.2⟩
    have := of_decide_eq_true h.1
    exact decide_eq_true ⟨this.1, this.2.1, this.2.2.2.2.1, this.2.2.2.2.2, this.2.2.1, this.2.2.2.1⟩
theorem chk_rev {V T : List (Int × (Int × Int))} (h : chk V T = 0) : chk V (T.map rvT) = 0 := by
  obtain ⟨h1, h2, h3, h4⟩ := chk0 h
  unfold chk
  rw [List.length_map, decide_eq_true h1, decide_eq_true h2, h3, tGood_rev h4]; rfl
theorem cut_rev {V T : List (Int × (Int × Int))} (z : Int) (h : chk V T = 0) : cutL (rvV V T) (rvL V T) z = (cutL V T z).map swp ∧ cutE (rvV V T) (rvL V T) z = cutE V T z ∧ (cutL V T z).length ≤ T.length := by
  have e1 : rvV V T = V := by unfold rvV; rw [h]; rfl
  have e2 : rvL V T = T.map rvT := by unfold rvL; rw [h]; rfl
  obtain ⟨_, _, hv, ht⟩ := chk0 h
  rw [e1, e2]
  unfold cutL cutE
  rw [chk_rev h, h, cuts_swap hv z T ht]
  cases okZ z
  · exact ⟨rfl, rfl, Nat.zero_le _⟩
  · exact ⟨rfl, rfl, cuts_len V z T⟩
theorem cou_run {V T : List (Int × (Int × Int))} (z : Int) (h : chk V T = 0) : cou_cond (z, false, V, T) (0, 0) = true ∧ cou_g (z, false, V, T) (0, 0) = (0, (((cuts V z T).length : Int), (T.length : Int))) := by
  obtain ⟨hV, hT, hv, ht⟩ := chk0 h
  have R := run_steps (step := cou_step (z, false, V, T)) (St := fun j => (((cuts V z (T.take j)).length : Int), (j : Int))) (n := T.length) (t := (0, (((cuts V z T).length : Int), (T.length : Int)))) (by
    simp only [cou_step, Tr.val, Int.lt_irrefl, decide_false, cond_false, List.take_length]) T.length 0 (Nat.zero_add _) (fun j _ hj => by
    have c1 : decide ((j : Int) < (T.length : Int)) = true := decide_eq_true (by omega)
    have c2 : decide ((0 : Int) ≤ (j : Int)) = true := decide_eq_true (by omega)
    obtain ⟨i1, i2, i3, i4, i5, i6⟩ := tOk_at ht hj
    have hl := cuts_len V z (T.take j)
    rw [List.length_take] at hl
    have e : cuts V z (T.take (j + 1)) = bif cT V T[j] z then cuts V z (T.take j) ++ [sT V T[j] z] else cuts V z (T.take j) := by
      rw [take_s hj]
      unfold cuts
      rw [List.filterMap_append]
      cases hc : cT V T[j] z <;> simp [hc]
    have w : IntKind.wrap IntKind.i64 (((cuts V z (T.take j)).length : Int) + (1 : Int)) = (((cuts V z (T.take j)).length + 1 : Nat) : Int) := by rw [wid (by omega) (by omega)]; push_cast; rfl
    rw [e, cT_eq hv ht hj]
    simp only [cou_step, Tr.val, c1, c2, el_get hj, decide_eq_true i1, decide_eq_true i2, decide_eq_true i3, decide_eq_true i4, decide_eq_true i5, decide_eq_true i6, w, wi1 hj hT, Bool.and_self, cond_true]
    show (bif mnx (el_iii V T[j].1).2.2 (el_iii V T[j].2.1).2.2 (el_iii V T[j].2.2).2.2 z then _ else _) = _
    cases mnx (el_iii V T[j].1).2.2 (el_iii V T[j].2.1).2.2 (el_iii V T[j].2.2).2.2 z
    · rfl
    · simp only [cond_true, List.length_append, List.length_cons, List.length_nil])
  exact R
theorem el4_get {l : List ((Int × Int) × (Int × Int))} {i : Nat} (h : i < l.length) : el_iiii l (i : Int) = l[i] := by
  show l.getD i _ = l[i]
  rw [List.getD, List.getElem?_eq_getElem h]; rfl
theorem rvs_run {L : List ((Int × Int) × (Int × Int))} (hL : L.length ≤ 4096) : rvs_cond (L, L.map swp) (false, 0) = true ∧ rvs_g (L, L.map swp) (false, 0) = (1, (false, (L.length : Int))) := by
  have R := run_steps (step := rvs_step (L, L.map swp)) (St := fun j => (false, (j : Int))) (n := L.length) (t := (1, (false, (L.length : Int)))) (by
    simp only [rvs_step, Tr.val, Int.lt_irrefl, decide_false, cond_false]) L.length 0 (Nat.zero_add _) (fun j _ hj => by
    have c1 : decide ((j : Int) < (L.length : Int)) = true := decide_eq_true (by omega)
    have c2 : decide ((0 : Int) ≤ (j : Int)) = true := decide_eq_true (by omega)
    have hk : j < (L.map swp).length := by rw [List.length_map]; exact hj
    have e : el_iiii (L.map swp) (j : Int) = swp L[j] := by rw [el4_get hk, List.getElem_map]
    simp only [rvs_step, Tr.val, c1, c2, List.length_map, el4_get hj, e, swp, wi1 hj (by omega), Bool.and_self, cond_true, cond_false, beq_self_eq_true, Bool.not_true])
  exact R
set_option maxRecDepth 100000 in
theorem law_SectionCounts_tree (V : (Ty.list (.prod (.int .i64) (.prod (.int .i64) (.int .i64)))).den) (T : (Ty.list (.prod (.int .i64) (.prod (.int .i64) (.int .i64)))).den) (z : Int) : evalF Try.prog seD_S54 (opens []) seE_L52 9 12 [.ag [.d false false (.prod (.int .i64) (.prod (.int .i64) (.int .i64))) V, .d false false (.prod (.int .i64) (.prod (.int .i64) (.int .i64))) T], .one (.v false (.int .i64 z))] = .br ((bif !bif decide ((↑(List.length T) : Int) ≤ (40 : Int)) then decide ((↑(List.length V) : Int) ≤ (60 : Int)) else false then (bif true then true else ((cou_cond (z, false, V, T) ((0 : Int), (0 : Int))) && (Nat.beq (Prod.fst (cou_g (z, false, V, T) ((0 : Int), (0 : Int)))) (0 : Nat)))) else (bif bif bif chk V T != (0 : Int) then true else decide (z < (-65536 : Int)) then true else decide (z > (65536 : Int)) then true else ((cou_cond (z, false, V, T) ((0 : Int), (0 : Int))) && (Nat.beq (Prod.fst (cou_g (z, false, V, T) ((0 : Int), (0 : Int)))) (0 : Nat)))))) (.ret (.one (.v false (.bool (bif !bif decide ((↑(List.length T) : Int) ≤ (40 : Int)) then decide ((↑(List.length V) : Int) ≤ (60 : Int)) else false then true else bif bif bif chk V T != (0 : Int) then true else decide (z < (-65536 : Int)) then true else decide (z > (65536 : Int)) then true else bif bif cutE V T z == (0 : Int) then (↑(List.length (cutL V T z)) : Int) == Prod.fst (Prod.snd (cou_g (z, false, V, T) ((0 : Int), (0 : Int)))) else false then true else false))))) (.bad 116) := by kernel_rfl
set_option maxHeartbeats 4000000 in
theorem law_SectionCounts_all (V : (Ty.list (.prod (.int .i64) (.prod (.int .i64) (.int .i64)))).den) (T : (Ty.list (.prod (.int .i64) (.prod (.int .i64) (.int .i64)))).den) (z : Int) (r0 : Ty.InR (.prod (.list (.prod (.int .i64) (.prod (.int .i64) (.int .i64)))) (.list (.prod (.int .i64) (.prod (.int .i64) (.int .i64))))) (V, T)) (l1 : -9223372036854775808 ≤ z) (g1 : z ≤ 9223372036854775807) : Tr.all (fun r => ∃ kn, r = AV.one (.v kn (.bool true))) (.br ((bif !bif decide ((↑(List.length T) : Int) ≤ (40 : Int)) then decide ((↑(List.length V) : Int) ≤ (60 : Int)) else false then (bif true then true else ((cou_cond (z, false, V, T) ((0 : Int), (0 : Int))) && (Nat.beq (Prod.fst (cou_g (z, false, V, T) ((0 : Int), (0 : Int)))) (0 : Nat)))) else (bif bif bif chk V T != (0 : Int) then true else decide (z < (-65536 : Int)) then true else decide (z > (65536 : Int)) then true else ((cou_cond (z, false, V, T) ((0 : Int), (0 : Int))) && (Nat.beq (Prod.fst (cou_g (z, false, V, T) ((0 : Int), (0 : Int)))) (0 : Nat)))))) (.ret (.one (.v false (.bool (bif !bif decide ((↑(List.length T) : Int) ≤ (40 : Int)) then decide ((↑(List.length V) : Int) ≤ (60 : Int)) else false then true else bif bif bif chk V T != (0 : Int) then true else decide (z < (-65536 : Int)) then true else decide (z > (65536 : Int)) then true else bif bif cutE V T z == (0 : Int) then (↑(List.length (cutL V T z)) : Int) == Prod.fst (Prod.snd (cou_g (z, false, V, T) ((0 : Int), (0 : Int)))) else false then true else false))))) (.bad 116)) := by
  show (_ = true → _) ∧ (_ = false → _)
  cases hs : (bif decide ((T.length : Int) ≤ (40 : Int)) then decide ((V.length : Int) ≤ (60 : Int)) else false)
  · refine ⟨fun _ => ⟨false, by simp⟩, fun h => by simp at h⟩
  · by_cases h : chk V T = 0
    · by_cases hz : z < -65536
      · refine ⟨fun _ => ⟨false, by simp [h, hz]⟩, fun h2 => by simp [h, hz] at h2⟩
      · by_cases hz2 : z > 65536
        · have hz3 : 65536 < z := hz2
          refine ⟨fun _ => ⟨false, by simp [h, hz, hz3]⟩, fun h2 => by simp [h, hz, hz3] at h2⟩
        · obtain ⟨r1, r2⟩ := cou_run (V := V) (T := T) z h
          have k : okZ z = true := by unfold okZ; rw [decide_eq_false hz, decide_eq_false hz2]; rfl
          have e1 : cutL V T z = cuts V z T := by unfold cutL; rw [h, k]; rfl
          have e2 : cutE V T z = 0 := by unfold cutE; rw [h, k]; rfl
          simp only [h, r1, r2, e1, e2, decide_eq_false hz, decide_eq_false hz2, bne_self_eq_false, beq_self_eq_true, cond_false, cond_true, Bool.not_true, Nat.beq, Bool.and_self]
          exact ⟨fun _ => ⟨false, rfl⟩, fun h2 => by cases h2⟩
    · have := bne0 h
      refine ⟨fun _ => ⟨false, by simp [this]⟩, fun h2 => by simp [this] at h2⟩
set_option maxHeartbeats 4000000 in
theorem law_SectionCounts (v0 : Value) (x0 : ((.prod (.list (.prod (.int .i64) (.prod (.int .i64) (.int .i64)))) (.list (.prod (.int .i64) (.prod (.int .i64) (.int .i64))))) : Ty).den) (r0 : Ty.InR (.prod (.list (.prod (.int .i64) (.prod (.int .i64) (.int .i64)))) (.list (.prod (.int .i64) (.prod (.int .i64) (.int .i64))))) x0) (z : Int) (l1 : -9223372036854775808 ≤ z) (g1 : z ≤ 9223372036854775807) (z_w : World) (i0 : (AV.ag (Ty.cells false (.prod (.list (.prod (.int .i64) (.prod (.int .i64) (.int .i64)))) (.list (.prod (.int .i64) (.prod (.int .i64) (.int .i64))))) x0)).is [] (fun _ => none) (fun b => b < z_w.heap.size) z_w v0) : Calls Try.prog 12 #[v0, .int .i64 z] z_w fun e w' => e = .returned (.bool true) ∧ Ext z_w w' := by
  obtain ⟨V, T⟩ := x0
  refine law_of_tree (by kernel_rfl) (seD_S54_ok) (seE_L52_ok) (law_SectionCounts_tree V T z) (law_SectionCounts_all V T z r0 l1 g1) rfl z_w _ _ (fun _ h => h) ⟨_, _, rfl, i0, ⟨_, _, rfl, rfl, rfl⟩⟩
set_option maxRecDepth 100000 in
theorem law_SectionReversed_tree (V : (Ty.list (.prod (.int .i64) (.prod (.int .i64) (.int .i64)))).den) (T : (Ty.list (.prod (.int .i64) (.prod (.int .i64) (.int .i64)))).den) (z : Int) : evalF Try.prog seD_S54 (opens []) seE_L52 9 11 [.ag [.d false false (.prod (.int .i64) (.prod (.int .i64) (.int .i64))) V, .d false false (.prod (.int .i64) (.prod (.int .i64) (.int .i64))) T], .one (.v false (.int .i64 z))] = .br ((bif !bif decide ((↑(List.length T) : Int) ≤ (40 : Int)) then decide ((↑(List.length V) : Int) ≤ (60 : Int)) else false then (bif true then true else (bif bif cutE V T z != cutE (rvV V T) (rvL V T) z then true else (↑(List.length (cutL V T z)) : Int) != (↑(List.length (cutL (rvV V T) (rvL V T) z)) : Int) then true else ((rvs_cond (cutL V T z, cutL (rvV V T) (rvL V T) z) (false, (0 : Int))) && (bif Nat.beq (Prod.fst (rvs_g (cutL V T z, cutL (rvV V T) (rvL V T) z) (false, (0 : Int)))) (0 : Nat) then true else (Nat.beq (Prod.fst (rvs_g (cutL V T z, cutL (rvV V T) (rvL V T) z) (false, (0 : Int)))) (1 : Nat)))))) else (bif chk V T != (0 : Int) then true else (bif bif cutE V T z != cutE (rvV V T) (rvL V T) z then true else (↑(List.length (cutL V T z)) : Int) != (↑(List.length (cutL (rvV V T) (rvL V T) z)) : Int) then true else ((rvs_cond (cutL V T z, cutL (rvV V T) (rvL V T) z) (false, (0 : Int))) && (bif Nat.beq (Prod.fst (rvs_g (cutL V T z, cutL (rvV V T) (rvL V T) z) (false, (0 : Int)))) (0 : Nat) then true else (Nat.beq (Prod.fst (rvs_g (cutL V T z, cutL (rvV V T) (rvL V T) z) (false, (0 : Int)))) (1 : Nat)))))))) (.ret (.one (.v false (.bool (bif !bif decide ((↑(List.length T) : Int) ≤ (40 : Int)) then decide ((↑(List.length V) : Int) ≤ (60 : Int)) else false then true else bif chk V T != (0 : Int) then true else bif bif cutE V T z != cutE (rvV V T) (rvL V T) z then true else (↑(List.length (cutL V T z)) : Int) != (↑(List.length (cutL (rvV V T) (rvL V T) z)) : Int) then false else bif Nat.beq (Prod.fst (rvs_g (cutL V T z, cutL (rvV V T) (rvL V T) z) (false, (0 : Int)))) (0 : Nat) then Prod.fst (Prod.snd (rvs_g (cutL V T z, cutL (rvV V T) (rvL V T) z) (false, (0 : Int)))) else true))))) (.bad 116) := by kernel_rfl
set_option maxHeartbeats 4000000 in
theorem law_SectionReversed_all (V : (Ty.list (.prod (.int .i64) (.prod (.int .i64) (.int .i64)))).den) (T : (Ty.list (.prod (.int .i64) (.prod (.int .i64) (.int .i64)))).den) (z : Int) (r0 : Ty.InR (.prod (.list (.prod (.int .i64) (.prod (.int .i64) (.int .i64)))) (.list (.prod (.int .i64) (.prod (.int .i64) (.int .i64))))) (V, T)) (l1 : -9223372036854775808 ≤ z) (g1 : z ≤ 9223372036854775807) : Tr.all (fun r => ∃ kn, r = AV.one (.v kn (.bool true))) (.br ((bif !bif decide ((↑(List.length T) : Int) ≤ (40 : Int)) then decide ((↑(List.length V) : Int) ≤ (60 : Int)) else false then (bif true then true else (bif bif cutE V T z != cutE (rvV V T) (rvL V T) z then true else (↑(List.length (cutL V T z)) : Int) != (↑(List.length (cutL (rvV V T) (rvL V T) z)) : Int) then true else ((rvs_cond (cutL V T z, cutL (rvV V T) (rvL V T) z) (false, (0 : Int))) && (bif Nat.beq (Prod.fst (rvs_g (cutL V T z, cutL (rvV V T) (rvL V T) z) (false, (0 : Int)))) (0 : Nat) then true else (Nat.beq (Prod.fst (rvs_g (cutL V T z, cutL (rvV V T) (rvL V T) z) (false, (0 : Int)))) (1 : Nat)))))) else (bif chk V T != (0 : Int) then true else (bif bif cutE V T z != cutE (rvV V T) (rvL V T) z then true else (↑(List.length (cutL V T z)) : Int) != (↑(List.length (cutL (rvV V T) (rvL V T) z)) : Int) then true else ((rvs_cond (cutL V T z, cutL (rvV V T) (rvL V T) z) (false, (0 : Int))) && (bif Nat.beq (Prod.fst (rvs_g (cutL V T z, cutL (rvV V T) (rvL V T) z) (false, (0 : Int)))) (0 : Nat) then true else (Nat.beq (Prod.fst (rvs_g (cutL V T z, cutL (rvV V T) (rvL V T) z) (false, (0 : Int)))) (1 : Nat)))))))) (.ret (.one (.v false (.bool (bif !bif decide ((↑(List.length T) : Int) ≤ (40 : Int)) then decide ((↑(List.length V) : Int) ≤ (60 : Int)) else false then true else bif chk V T != (0 : Int) then true else bif bif cutE V T z != cutE (rvV V T) (rvL V T) z then true else (↑(List.length (cutL V T z)) : Int) != (↑(List.length (cutL (rvV V T) (rvL V T) z)) : Int) then false else bif Nat.beq (Prod.fst (rvs_g (cutL V T z, cutL (rvV V T) (rvL V T) z) (false, (0 : Int)))) (0 : Nat) then Prod.fst (Prod.snd (rvs_g (cutL V T z, cutL (rvV V T) (rvL V T) z) (false, (0 : Int)))) else true))))) (.bad 116)) := by
  show (_ = true → _) ∧ (_ = false → _)
  cases hs : (bif decide ((T.length : Int) ≤ (40 : Int)) then decide ((V.length : Int) ≤ (60 : Int)) else false)
  · refine ⟨fun _ => ⟨false, by simp⟩, fun h => by simp at h⟩
  · by_cases h : chk V T = 0
    · obtain ⟨e1, e2, e3⟩ := cut_rev (V := V) (T := T) z h
      obtain ⟨r1, r2⟩ := rvs_run (L := cutL V T z) (by have := (chk0 h).2.1; omega)
      simp only [h, e1, e2, List.length_map, r1, r2, bne_self_eq_false, cond_false, cond_true, Bool.not_true, Nat.beq, Bool.and_self]
      exact ⟨fun _ => ⟨false, rfl⟩, fun h2 => by cases h2⟩
    · have := bne0 h
      refine ⟨fun _ => ⟨false, by simp [this]⟩, fun h2 => by simp [this] at h2⟩
set_option maxHeartbeats 4000000 in
theorem law_SectionReversed (v0 : Value) (x0 : ((.prod (.list (.prod (.int .i64) (.prod (.int .i64) (.int .i64)))) (.list (.prod (.int .i64) (.prod (.int .i64) (.int .i64))))) : Ty).den) (r0 : Ty.InR (.prod (.list (.prod (.int .i64) (.prod (.int .i64) (.int .i64)))) (.list (.prod (.int .i64) (.prod (.int .i64) (.int .i64))))) x0) (z : Int) (l1 : -9223372036854775808 ≤ z) (g1 : z ≤ 9223372036854775807) (z_w : World) (i0 : (AV.ag (Ty.cells false (.prod (.list (.prod (.int .i64) (.prod (.int .i64) (.int .i64)))) (.list (.prod (.int .i64) (.prod (.int .i64) (.int .i64))))) x0)).is [] (fun _ => none) (fun b => b < z_w.heap.size) z_w v0) : Calls Try.prog 11 #[v0, .int .i64 z] z_w fun e w' => e = .returned (.bool true) ∧ Ext z_w w' := by
  obtain ⟨V, T⟩ := x0
  refine law_of_tree (by kernel_rfl) (seD_S54_ok) (seE_L52_ok) (law_SectionReversed_tree V T z) (law_SectionReversed_all V T z r0 l1 g1) rfl z_w _ _ (fun _ h => h) ⟨_, _, rfl, i0, ⟨_, _, rfl, rfl, rfl⟩⟩
end Go.Proofs.Ytmdjakacpcnhmaa
