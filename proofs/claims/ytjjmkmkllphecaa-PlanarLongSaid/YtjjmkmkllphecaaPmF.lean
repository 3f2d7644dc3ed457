/-
  Layer 5: PlanarLong.
-/
import Derived.Test.YtjjmkmkllphecaaProg
import Derived.Test.YtjjmkmkllphecaaFvX
import Derived.Test.YtjjmkmkllphecaaFvZ
import Derived.Test.YtjjmkmkllphecaaAut
import Derived.Test.YtjjmkmkllphecaaRd
import Derived.Test.YtjjmkmkllphecaaPl
import Derived.Test.YtjjmkmkllphecaaShelf
import Derived.Test.YtjjmkmkllphecaaScn
import Derived.Test.YtjjmkmkllphecaaSrt
import Derived.Test.YtjjmkmkllphecaaFrs
import Derived.Test.YtjjmkmkllphecaaPmA
import Derived.Test.YtjjmkmkllphecaaPmB
import Derived.Test.YtjjmkmkllphecaaPmC
import Derived.Test.YtjjmkmkllphecaaPmD
import Derived.Test.YtjjmkmkllphecaaPmE
namespace Go.Proofs.Ytjjmkmkllphecaa
open Go
abbrev usa_U : Type := (Ty.list (.prod (.int .i64) (.int .i64))).den × Int
abbrev usa_V : Type := Bool × Int
noncomputable def usa_St (u : usa_U) (v : usa_V) : Stt := ⟨[.one .junk, .one .junk, .one (.v false (.bool v.1)), .one .junk, .one .junk, .one .junk, .one .junk, .one .junk, .one (.d false false (.prod (.int .i64) (.int .i64)) u.1), .one (.v false (.int .i64 u.2)), .one (.v false (.int .i64 v.2)), .one .junk, .one .junk, .one .junk, .one .junk, .one .junk, .one .junk, .one .junk], [], 1007⟩
def el_ii (l : (Ty.list (Ty.prod (Ty.int IntKind.i64) (Ty.int IntKind.i64))).den) (i : Int) : (Int × Int) := elm (Ty.prod (Ty.int IntKind.i64) (Ty.int IntKind.i64)) l i
noncomputable def usa_step (u : usa_U) (v : usa_V) : Tr (usa_V ⊕ (Nat × usa_V)) :=
  match u, v with
  | (q1, q2), (q0, q3) => .br (decide (q3 < q2)) (.br (decide ((0 : Int) ≤ q3) && decide (q3 < (↑(List.length q1) : Int))) (.br (!vp (Prod.fst (el_ii q1 q3)) (Prod.snd (el_ii q1 q3))) (.ret (.inr (0, (false, q3)))) (.ret (.inl (q0, IntKind.wrap IntKind.i64 (q3 + (1 : Int)))))) (.bad 29)) (.ret (.inr (1, (q0, q3))))
set_option maxRecDepth 100000 in
set_option maxHeartbeats 4000000 in
theorem usa_step_eq : ∀ (u : usa_U) (v : usa_V), (evalC Try.prog (evalB Try.prog pmE_S52 (opens []) pmB_L9 7).1 (evalB Try.prog pmE_S52 (opens []) pmB_L9 7).2 (opens []) (pmB_L9 36) 100000 (0 :: [0, 1, 0, 1, 1]) (loopOf (bodyOf Try.prog 36) [1, 1, 0, 1, 0]) (usa_St u v) []).bind (finF [0, 1, 3, 4, 5, 6, 7, 11, 12, 13, 14, 15, 16, 17] [] [] [] 1007) = (usa_step u v).bind (outA (usa_St u) [.ret, .exit 0]) := by
  rintro ⟨q1, q2⟩ ⟨q0, q3⟩
  kernel_rfl
noncomputable def usa_rd (b : Bool) (o2 : Option AV) (o8 : Option AV) (o9 : Option AV) (o10 : Option AV) (own : Own) : Option (usa_U × usa_V) := zrT b <| zrO o2 fun za1 => zrA1 za1 fun zc2 => zrB zc2 fun q0 => zrO o8 fun za3 => zrA1 za3 fun zc4 => zrD (.prod (.int .i64) (.int .i64)) zc4 fun q1 => zrO o9 fun za5 => zrA1 za5 fun zc6 => zrI .i64 zc6 fun q2 => zrO o10 fun za7 => zrA1 za7 fun zc8 => zrI .i64 zc8 fun q3 => zrN own <| some ((q1, q2), (q0, q3))
noncomputable def usa_can (st : Stt) : Stt := canA [0, 1, 3, 4, 5, 6, 7, 11, 12, 13, 14, 15, 16, 17] [] [] [] 1007 st
noncomputable def usa_cok (st : Stt) : Bool := canAok [0, 1, 3, 4, 5, 6, 7, 11, 12, 13, 14, 15, 16, 17] [] [] [] 1007 st
noncomputable def usa_read (st : Stt) : Option (usa_U × usa_V) := usa_rd (usa_cok st && (staysA [] [] st.own && juAll [0, 1, 3, 4, 5, 6, 7, 11, 12, 13, 14, 15, 16, 17] (usa_can st).tm 18)) (usa_can st).tm[2]? (usa_can st).tm[8]? (usa_can st).tm[9]? (usa_can st).tm[10]? (usa_can st).own
set_option maxRecDepth 100000 in
set_option maxHeartbeats 4000000 in
theorem usa_rd_ok {b : Bool} {tm : List AV} {own : Own} {u : usa_U} {v : usa_V} (hj : b = true → juAll [0, 1, 3, 4, 5, 6, 7, 11, 12, 13, 14, 15, 16, 17] tm 18 = true) (h : usa_rd b tm[2]? tm[8]? tm[9]? tm[10]? own = some (u, v)) : b = true ∧ tm = (usa_St u v).tm ∧ own = (usa_St u v).own := by
  unfold usa_rd at h
  obtain ⟨rfl, h0⟩ := zrT_some h
  obtain ⟨za1, e2, h1⟩ := zrO_some h0
  obtain ⟨zc2, rfl, h2⟩ := zrA1_some h1
  obtain ⟨q0, rfl, h3⟩ := zrB_some h2
  obtain ⟨za3, e8, h4⟩ := zrO_some h3
  obtain ⟨zc4, rfl, h5⟩ := zrA1_some h4
  obtain ⟨q1, rfl, h6⟩ := zrD_some h5
  obtain ⟨za5, e9, h7⟩ := zrO_some h6
  obtain ⟨zc6, rfl, h8⟩ := zrA1_some h7
  obtain ⟨q2, rfl, h9⟩ := zrI_some h8
  obtain ⟨za7, e10, h10⟩ := zrO_some h9
  obtain ⟨zc8, rfl, h11⟩ := zrA1_some h10
  obtain ⟨q3, rfl, h12⟩ := zrI_some h11
  obtain ⟨rfl, h13⟩ := zrN_some h12
  have h := Option.some.inj h13
  have hu := congrArg Prod.fst h
  have hv := congrArg Prod.snd h
  dsimp only at hu hv
  subst hu
  subst hv
  exact ⟨rfl, (tm_fill (hj rfl) (Lv := [(2, .one (.v false (.bool q0))), (8, .one (.d false false (.prod (.int .i64) (.int .i64)) q1)), (9, .one (.v false (.int .i64 q2))), (10, .one (.v false (.int .i64 q3)))]) (by kernel_rfl) ⟨e2, e8, e9, e10, trivial⟩).trans (by kernel_rfl), rfl⟩
theorem usa_read_ok (st : Stt) (u : usa_U) (v : usa_V) (h : usa_read st = some (u, v)) : usa_cok st = true ∧ staysA [] [] st.own = true ∧ usa_can st = usa_St u v := by
  obtain ⟨h1, h2, h3⟩ := usa_rd_ok (fun hb => by rw [Bool.and_eq_true, Bool.and_eq_true] at hb; exact hb.2.2) h
  rw [Bool.and_eq_true, Bool.and_eq_true] at h1
  refine ⟨h1.1, h1.2.1, ?_⟩
  have e : usa_can st = ⟨(usa_can st).tm, (usa_can st).own, 1007⟩ := by kernel_rfl
  rw [e, h2, h3]
  rfl
noncomputable def usa_cond (u : usa_U) (v : usa_V) : Bool := runC (usa_step u) v
noncomputable def usa_g (u : usa_U) (v : usa_V) : Nat × usa_V := runG (usa_step u) v
theorem usa_hg : ∀ (u : usa_U) (v : usa_V), usa_cond u v = true → loopN (usa_step u) ((fun u v => runF (usa_step u) v) u v) v = some (usa_g u v) := by
  exact fun u v h => run_hg h
noncomputable def usa_m (st : Stt) : Option (Tr (Ex × Stt)) := sumM usa_read usa_cond usa_St usa_g [(0, .ret), (1, .exit 0)] st
noncomputable def pmF_L51 : FuncId → Loops := addL 36 [0, 1, 0, 1, 1] usa_m pmB_L9
set_option maxRecDepth 100000 in
set_option maxHeartbeats 4000000 in
theorem pmF_L51_ok : LoopsOK Try.prog pmF_L51 :=
  loop_sumF (body := (bodyOf Try.prog 36)) (c := (loopOf (bodyOf Try.prog 36) [1, 1, 0, 1, 0])) (kinds := [.ret, .exit 0]) (allow := [(0, .ret), (1, .exit 0)]) (St := usa_St) (step := usa_step) (W := [0, 1, 3, 4, 5, 6, 7, 11, 12, 13, 14, 15, 16, 17]) (As := []) (ks := []) (dd := []) (nx := 1007) (n := 100000) (g := usa_g) (cond := usa_cond) (fuel := (fun u v => runF (usa_step u) v)) (read := usa_read) (by kernel_rfl) (pmE_S52_ok) (pmB_L9_ok) 7 ⟨Try.f36, by kernel_rfl, by kernel_rfl⟩ (by kernel_rfl) (by kernel_rfl) (by kernel_rfl) usa_step_eq usa_hg usa_read_ok
def usb (L : List (Int × Int)) : Bool := decide (L.length ≤ 8192) && L.all (fun p => vp p.1 p.2)
def gP (L : List (Int × Int)) (i : Nat) : Int × Int := L.getD i (0, 0)
def arS (L : List (Int × Int)) : Nat → Int
  | 0 => 0
  | j + 1 => IntKind.wrap IntKind.i64 (arS L j + IntKind.wrap IntKind.i64 (IntKind.wrap IntKind.i64 ((gP L j).1 * (gP L ((j + 1) % L.length)).2) - IntKind.wrap IntKind.i64 ((gP L j).2 * (gP L ((j + 1) % L.length)).1)))
def arV (L : List (Int × Int)) : Int := bif usb L then arS L L.length else 0
theorem el_gP (L : List (Int × Int)) (i : Nat) : el_ii L (i : Int) = gP L i := by
  show elm PT L (i : Int) = _
  rw [elm_nat]; rfl
theorem gP_get {L : List (Int × Int)} {i : Nat} (h : i < L.length) : gP L i = L[i] := by
  unfold gP
  rw [List.getD, List.getElem?_eq_getElem h]; rfl
theorem usa_run {L : List (Int × Int)} (hn : L.length ≤ 8192) : usa_cond (L, (L.length : Int)) (false, (0 : Int)) = true ∧ ((L.all (fun p => vp p.1 p.2) = true ∧ usa_g (L, (L.length : Int)) (false, (0 : Int)) = (1, (false, (L.length : Int)))) ∨ (L.all (fun p => vp p.1 p.2) = false ∧ ∃ j : Nat, usa_g (L, (L.length : Int)) (false, (0 : Int)) = (0, (false, (j : Int))))) := by
  obtain ⟨h1, h2⟩ := run_all (step := usa_step (L, (L.length : Int))) (St := fun i => (false, (i : Int))) (Lv := fun i => (0, (false, (i : Int)))) (t := (1, (false, (L.length : Int)))) (l := L) (p := fun p => vp p.1 p.2) (fun j hj => by
    simp only [usa_step, Tr.val, lt_t hj, nn_t, el_gP, gP_get hj, wi1 hj (show (L.length : Int) ≤ 9223372036854775806 by omega), Bool.and_self, cond_true]
    cases vp L[j].1 L[j].2 <;> rfl) (by simp only [usa_step, Tr.val, Int.lt_irrefl, decide_false, cond_false])
  refine ⟨h1, ?_⟩
  rcases h2 with ⟨h, h3⟩ | ⟨h, j, _, _, _, h4⟩
  · exact .inl ⟨h, h3⟩
  · exact .inr ⟨h, j, h4⟩
set_option maxRecDepth 100000 in
theorem usc_tree (L : (Ty.list (.prod (.int .i64) (.int .i64))).den) : evalF Try.prog pmE_S52 (opens []) pmF_L51 9 36 [.one (.d false false (.prod (.int .i64) (.int .i64)) L)] = .br ((bif decide ((↑(List.length L) : Int) > (8192 : Int)) then true else ((usa_cond (L, (↑(List.length L) : Int)) (false, (0 : Int))) && (bif Nat.beq (Prod.fst (usa_g (L, (↑(List.length L) : Int)) (false, (0 : Int)))) (0 : Nat) then true else (Nat.beq (Prod.fst (usa_g (L, (↑(List.length L) : Int)) (false, (0 : Int)))) (1 : Nat)))))) (.ret (.one (.v false (.bool (bif decide ((↑(List.length L) : Int) > (8192 : Int)) then false else bif Nat.beq (Prod.fst (usa_g (L, (↑(List.length L) : Int)) (false, (0 : Int)))) (0 : Nat) then Prod.fst (Prod.snd (usa_g (L, (↑(List.length L) : Int)) (false, (0 : Int)))) else true))))) (.bad 116) := by kernel_rfl
set_option maxHeartbeats 4000000 in
theorem usc_val (L : (Ty.list (.prod (.int .i64) (.int .i64))).den) : (.br ((bif decide ((↑(List.length L) : Int) > (8192 : Int)) then true else ((usa_cond (L, (↑(List.length L) : Int)) (false, (0 : Int))) && (bif Nat.beq (Prod.fst (usa_g (L, (↑(List.length L) : Int)) (false, (0 : Int)))) (0 : Nat) then true else (Nat.beq (Prod.fst (usa_g (L, (↑(List.length L) : Int)) (false, (0 : Int)))) (1 : Nat)))))) (.ret (.one (.v false (.bool (bif decide ((↑(List.length L) : Int) > (8192 : Int)) then false else bif Nat.beq (Prod.fst (usa_g (L, (↑(List.length L) : Int)) (false, (0 : Int)))) (0 : Nat) then Prod.fst (Prod.snd (usa_g (L, (↑(List.length L) : Int)) (false, (0 : Int)))) else true))))) (.bad 116) : Tr AV).val = some (.one (.v false (.bool (usb L)))) := by
  show cond _ _ _ = _
  unfold usb
  by_cases hn : L.length ≤ 8192
  · have d1 : decide ((L.length : Int) > 8192) = false := decide_eq_false (by omega)
    have d2 : decide (L.length ≤ 8192) = true := decide_eq_true hn
    have z0 : Nat.beq 0 0 = true := rfl
    have z1 : Nat.beq 1 0 = false := rfl
    have z2 : Nat.beq 1 1 = true := rfl
    obtain ⟨h1, h2⟩ := usa_run hn
    rcases h2 with ⟨h, h3⟩ | ⟨h, j, h3⟩
    · simp only [d1, d2, h1, h3, h, z1, z2, cond_true, cond_false, Bool.and_self, Tr.val]
    · simp only [d1, d2, h1, h3, h, z0, cond_true, cond_false, Bool.and_self, Bool.and_false, Tr.val]
  · have d1 : decide ((L.length : Int) > 8192) = true := decide_eq_true (by omega)
    have d2 : decide (L.length ≤ 8192) = false := decide_eq_false hn
    simp only [d1, d2, cond_true, Bool.false_and, Tr.val]
noncomputable def usc_g : List AV → Option (Tr AV)
  | [.one (.d _ _ (.prod (.int .i64) (.int .i64)) L)] => some (.ret (.one (.v false (.bool (usb L)))))
  | _ => none
set_option maxHeartbeats 4000000 in
theorem usc_ok : FunOK Try.prog 36 usc_g := by
  refine fun_ok (by kernel_rfl) (pmE_S52_ok) (pmF_L51_ok) 9 (On := (opens [])) (fun args t h => ?_)
  unfold usc_g at h
  split at h
  · rename_i _ _ L
    simp only [Option.some.injEq] at h
    subst h
    refine ⟨[.one (.d false false (.prod (.int .i64) (.int .i64)) L)], rfl, fun fr w us h => h, fun r hr => ?_⟩
    simp only [Tr.val, Option.some.injEq] at hr
    subst hr
    rw [usc_tree]
    exact usc_val L
  · cases h
noncomputable def pmF_S52 : Sums := addS 36 usc_g pmE_S52
theorem pmF_S52_ok : SumOK Try.prog pmF_S52 := addS_ok (usc_ok) (pmE_S52_ok)
abbrev are_U : Type := (Ty.list (.prod (.int .i64) (.int .i64))).den × Int × (Ty.list (.prod (.int .i64) (.int .i64))).den × Int
abbrev are_V : Type := Int × Int
noncomputable def are_St (u : are_U) (v : are_V) : Stt := ⟨[.one (.d false false (.prod (.int .i64) (.int .i64)) u.1), .one .junk, .one (.v false (.int .i64 u.2.1)), .one (.v false (.int .i64 v.1)), .one .junk, .one .junk, .one .junk, .one .junk, .one .junk, .one .junk, .one (.d false false (.prod (.int .i64) (.int .i64)) u.2.2.1), .one (.v false (.int .i64 u.2.2.2)), .one (.v false (.int .i64 v.2)), .one .junk, .one .junk, .one .junk, .one .junk, .one .junk, .one .junk, .one .junk, .one .junk, .one .junk, .one .junk, .one .junk, .one .junk, .one .junk, .one .junk, .one .junk, .one .junk, .one .junk, .one .junk, .one .junk, .one .junk, .one .junk, .one .junk, .one .junk, .one .junk, .one .junk, .one .junk, .one .junk], [], 1008⟩
noncomputable def are_step (u : are_U) (v : are_V) : Tr (are_V ⊕ (Nat × are_V)) :=
  match u, v with
  | (q0, _, q3, q4), (q2, q5) => .br (decide (q5 < q4)) (.br (decide ((0 : Int) ≤ q5) && decide (q5 < (↑(List.length q3) : Int))) (.br ((↑(List.length q0) : Int) != (0 : Int)) (.br (decide ((0 : Int) ≤ Int.tmod (IntKind.wrap IntKind.i64 (q5 + (1 : Int))) (↑(List.length q0) : Int)) && decide (Int.tmod (IntKind.wrap IntKind.i64 (q5 + (1 : Int))) (↑(List.length q0) : Int) < (↑(List.length q0) : Int))) (.ret (.inl (IntKind.wrap IntKind.i64 (q2 + IntKind.wrap IntKind.i64 (IntKind.wrap IntKind.i64 (Prod.fst (el_ii q3 q5) * Prod.snd (el_ii q0 (Int.tmod (IntKind.wrap IntKind.i64 (q5 + (1 : Int))) (↑(List.length q0) : Int)))) - IntKind.wrap IntKind.i64 (Prod.snd (el_ii q3 q5) * Prod.fst (el_ii q0 (Int.tmod (IntKind.wrap IntKind.i64 (q5 + (1 : Int))) (↑(List.length q0) : Int)))))), IntKind.wrap IntKind.i64 (q5 + (1 : Int))))) (.bad 29)) (.bad 86)) (.bad 29)) (.ret (.inr (0, (q2, q5))))
set_option maxRecDepth 100000 in
set_option maxHeartbeats 4000000 in
theorem are_step_eq : ∀ (u : are_U) (v : are_V), (evalC Try.prog (evalB Try.prog pmF_S52 (opens []) pmF_L51 7).1 (evalB Try.prog pmF_S52 (opens []) pmF_L51 7).2 (opens []) (pmF_L51 19) 100000 (0 :: [0, 1, 0, 1, 1, 1]) (loopOf (bodyOf Try.prog 19) [1, 1, 1, 0, 1, 0]) (are_St u v) []).bind (finF [1, 4, 5, 6, 7, 8, 9, 13, 14, 15, 16, 17, 18, 19, 20, 21, 22, 23, 24, 25, 26, 27, 28, 29, 30, 31, 32, 33, 34, 35, 36, 37, 38, 39] [] [] [] 1008) = (are_step u v).bind (outA (are_St u) [.exit 0]) := by
  rintro ⟨q0, q1, q3, q4⟩ ⟨q2, q5⟩
  kernel_rfl
noncomputable def are_rd (b : Bool) (o0 : Option AV) (o2 : Option AV) (o3 : Option AV) (o10 : Option AV) (o11 : Option AV) (o12 : Option AV) (own : Own) : Option (are_U × are_V) := zrT b <| zrO o0 fun za1 => zrA1 za1 fun zc2 => zrD (.prod (.int .i64) (.int .i64)) zc2 fun q0 => zrO o2 fun za3 => zrA1 za3 fun zc4 => zrI .i64 zc4 fun q1 => zrO o3 fun za5 => zrA1 za5 fun zc6 => zrI .i64 zc6 fun q2 => zrO o10 fun za7 => zrA1 za7 fun zc8 => zrD (.prod (.int .i64) (.int .i64)) zc8 fun q3 => zrO o11 fun za9 => zrA1 za9 fun zc10 => zrI .i64 zc10 fun q4 => zrO o12 fun za11 => zrA1 za11 fun zc12 => zrI .i64 zc12 fun q5 => zrN own <| some ((q0, q1, q3, q4), (q2, q5))
noncomputable def are_can (st : Stt) : Stt := canA [1, 4, 5, 6, 7, 8, 9, 13, 14, 15, 16, 17, 18, 19, 20, 21, 22, 23, 24, 25, 26, 27, 28, 29, 30, 31, 32, 33, 34, 35, 36, 37, 38, 39] [] [] [] 1008 st
noncomputable def are_cok (st : Stt) : Bool := canAok [1, 4, 5, 6, 7, 8, 9, 13, 14, 15, 16, 17, 18, 19, 20, 21, 22, 23, 24, 25, 26, 27, 28, 29, 30, 31, 32, 33, 34, 35, 36, 37, 38, 39] [] [] [] 1008 st
noncomputable def are_read (st : Stt) : Option (are_U × are_V) := are_rd (are_cok st && (staysA [] [] st.own && juAll [1, 4, 5, 6, 7, 8, 9, 13, 14, 15, 16, 17, 18, 19, 20, 21, 22, 23, 24, 25, 26, 27, 28, 29, 30, 31, 32, 33, 34, 35, 36, 37, 38, 39] (are_can st).tm 40)) (are_can st).tm[0]? (are_can st).tm[2]? (are_can st).tm[3]? (are_can st).tm[10]? (are_can st).tm[11]? (are_can st).tm[12]? (are_can st).own
set_option maxRecDepth 100000 in
set_option maxHeartbeats 4000000 in
theorem are_rd_ok {b : Bool} {tm : List AV} {own : Own} {u : are_U} {v : are_V} (hj : b = true → juAll [1, 4, 5, 6, 7, 8, 9, 13, 14, 15, 16, 17, 18, 19, 20, 21, 22, 23, 24, 25, 26, 27, 28, 29, 30, 31, 32, 33, 34, 35, 36, 37, 38, 39] tm 40 = true) (h : are_rd b tm[0]? tm[2]? tm[3]? tm[10]? tm[11]? tm[12]? own = some (u, v)) : b = true ∧ tm = (are_St u v).tm ∧ own = (are_St u v).own := by
  unfold are_rd at h
  obtain ⟨rfl, h0⟩ := zrT_some h
  obtain ⟨za1, e0, h1⟩ := zrO_some h0
  obtain ⟨zc2, rfl, h2⟩ := zrA1_some h1
  obtain ⟨q0, rfl, h3⟩ := zrD_some h2
  obtain ⟨za3, e2, h4⟩ := zrO_some h3
  obtain ⟨zc4, rfl, h5⟩ := zrA1_some h4
  obtain ⟨q1, rfl, h6⟩ := zrI_some h5
  obtain ⟨za5, e3, h7⟩ := zrO_some h6
  obtain ⟨zc6, rfl, h8⟩ := zrA1_some h7
  obtain ⟨q2, rfl, h9⟩ := zrI_some h8
  obtain ⟨za7, e10, h10⟩ := zrO_some h9
  obtain ⟨zc8, rfl, h11⟩ := zrA1_some h10
  obtain ⟨q3, rfl, h12⟩ := zrD_some h11
  obtain ⟨za9, e11, h13⟩ := zrO_some h12
  obtain ⟨zc10, rfl, h14⟩ := zrA1_some h13
  obtain ⟨q4, rfl, h15⟩ := zrI_some h14
  obtain ⟨za11, e12, h16⟩ := zrO_some h15
  obtain ⟨zc12, rfl, h17⟩ := zrA1_some h16
  obtain ⟨q5, rfl, h18⟩ := zrI_some h17
  obtain ⟨rfl, h19⟩ := zrN_some h18
  have h := Option.some.inj h19
  have hu := congrArg Prod.fst h
  have hv := congrArg Prod.snd h
  dsimp only at hu hv
  subst hu
  subst hv
  exact ⟨rfl, (tm_fill (hj rfl) (Lv := [(0, .one (.d false false (.prod (.int .i64) (.int .i64)) q0)), (2, .one (.v false (.int .i64 q1))), (3, .one (.v false (.int .i64 q2))), (10, .one (.d false false (.prod (.int .i64) (.int .i64)) q3)), (11, .one (.v false (.int .i64 q4))), (12, .one (.v false (.int .i64 q5)))]) (by kernel_rfl) ⟨e0, e2, e3, e10, e11, e12, trivial⟩).trans (by kernel_rfl), rfl⟩
theorem are_read_ok (st : Stt) (u : are_U) (v : are_V) (h : are_read st = some (u, v)) : are_cok st = true ∧ staysA [] [] st.own = true ∧ are_can st = are_St u v := by
  obtain ⟨h1, h2, h3⟩ := are_rd_ok (fun hb => by rw [Bool.and_eq_true, Bool.and_eq_true] at hb; exact hb.2.2) h
  rw [Bool.and_eq_true, Bool.and_eq_true] at h1
  refine ⟨h1.1, h1.2.1, ?_⟩
  have e : are_can st = ⟨(are_can st).tm, (are_can st).own, 1008⟩ := by kernel_rfl
  rw [e, h2, h3]
  rfl
noncomputable def are_cond (u : are_U) (v : are_V) : Bool := runC (are_step u) v
noncomputable def are_g (u : are_U) (v : are_V) : Nat × are_V := runG (are_step u) v
theorem are_hg : ∀ (u : are_U) (v : are_V), are_cond u v = true → loopN (are_step u) ((fun u v => runF (are_step u) v) u v) v = some (are_g u v) := by
  exact fun u v h => run_hg h
noncomputable def are_m (st : Stt) : Option (Tr (Ex × Stt)) := sumM are_read are_cond are_St are_g [(0, .exit 0)] st
noncomputable def pmF_L53 : FuncId → Loops := addL 19 [0, 1, 0, 1, 1, 1] are_m pmF_L51
set_option maxRecDepth 100000 in
set_option maxHeartbeats 4000000 in
theorem pmF_L53_ok : LoopsOK Try.prog pmF_L53 :=
  loop_sumF (body := (bodyOf Try.prog 19)) (c := (loopOf (bodyOf Try.prog 19) [1, 1, 1, 0, 1, 0])) (kinds := [.exit 0]) (allow := [(0, .exit 0)]) (St := are_St) (step := are_step) (W := [1, 4, 5, 6, 7, 8, 9, 13, 14, 15, 16, 17, 18, 19, 20, 21, 22, 23, 24, 25, 26, 27, 28, 29, 30, 31, 32, 33, 34, 35, 36, 37, 38, 39]) (As := []) (ks := []) (dd := []) (nx := 1008) (n := 100000) (g := are_g) (cond := are_cond) (fuel := (fun u v => runF (are_step u) v)) (read := are_read) (by kernel_rfl) (pmF_S52_ok) (pmF_L51_ok) 7 ⟨Try.f19, by kernel_rfl, by kernel_rfl⟩ (by kernel_rfl) (by kernel_rfl) (by kernel_rfl) are_step_eq are_hg are_read_ok
theorem are_run {L : List (Int × Int)} (hn : L.length ≤ 8192) : are_cond (L, (0 : Int), L, (L.length : Int)) ((0 : Int), (0 : Int)) = true ∧ are_g (L, (0 : Int), L, (L.length : Int)) ((0 : Int), (0 : Int)) = (0, (arS L L.length, (L.length : Int))) := by
  refine run_steps (step := are_step (L, (0 : Int), L, (L.length : Int))) (St := fun j => (arS L j, (j : Int))) (n := L.length) (t := (0, (arS L L.length, (L.length : Int)))) ?_ L.length 0 (Nat.zero_add _) (fun j _ hj => ?_)
  · simp only [are_step, Tr.val, Int.lt_irrefl, decide_false, cond_false]
  · have hm : Int.tmod ((j + 1 : Nat) : Int) (L.length : Int) = (((j + 1) % L.length : Nat) : Int) := by
      rw [Int.tmod_eq_emod_of_nonneg (by omega)]; rfl
    have hlt := Nat.mod_lt (j + 1) (show L.length > 0 by omega)
    have d1 : decide ((0 : Int) ≤ (((j + 1) % L.length : Nat) : Int)) = true := decide_eq_true (by omega)
    have d2 : decide ((((j + 1) % L.length : Nat) : Int) < (L.length : Int)) = true := decide_eq_true (by omega)
    have d3 : ((L.length : Int) != 0) = true := by simp; intro e; rw [e] at hj; simp at hj
    simp only [are_step, Tr.val, lt_t hj, nn_t, el_gP, wi1 hj (show (L.length : Int) ≤ 9223372036854775806 by omega), hm, d1, d2, d3, Bool.and_self, cond_true]
    rfl
set_option maxRecDepth 100000 in
theorem arc_tree (L : (Ty.list (.prod (.int .i64) (.int .i64))).den) : evalF Try.prog pmF_S52 (opens []) pmF_L53 9 19 [.one (.d false false (.prod (.int .i64) (.int .i64)) L)] = .br ((bif !usb L then true else ((are_cond (L, (0 : Int), L, (↑(List.length L) : Int)) ((0 : Int), (0 : Int))) && (Nat.beq (Prod.fst (are_g (L, (0 : Int), L, (↑(List.length L) : Int)) ((0 : Int), (0 : Int)))) (0 : Nat))))) (.ret (.one (.v false (.int .i64 (bif !usb L then (0 : Int) else Prod.fst (Prod.snd (are_g (L, (0 : Int), L, (↑(List.length L) : Int)) ((0 : Int), (0 : Int))))))))) (.bad 116) := by kernel_rfl
set_option maxHeartbeats 4000000 in
theorem arc_val (L : (Ty.list (.prod (.int .i64) (.int .i64))).den) : (.br ((bif !usb L then true else ((are_cond (L, (0 : Int), L, (↑(List.length L) : Int)) ((0 : Int), (0 : Int))) && (Nat.beq (Prod.fst (are_g (L, (0 : Int), L, (↑(List.length L) : Int)) ((0 : Int), (0 : Int)))) (0 : Nat))))) (.ret (.one (.v false (.int .i64 (bif !usb L then (0 : Int) else Prod.fst (Prod.snd (are_g (L, (0 : Int), L, (↑(List.length L) : Int)) ((0 : Int), (0 : Int))))))))) (.bad 116) : Tr AV).val = some (.one (.v false (.int .i64 (arV L)))) := by
  show cond _ _ _ = _
  unfold arV
  cases hu : usb L
  · simp only [Bool.not_false, cond_true, cond_false, Tr.val]
  · have hn : L.length ≤ 8192 := by
      unfold usb at hu
      rw [Bool.and_eq_true] at hu
      exact of_decide_eq_true hu.1
    obtain ⟨h1, h2⟩ := are_run hn
    have z0 : Nat.beq 0 0 = true := rfl
    simp only [h1, h2, z0, Bool.not_true, cond_true, cond_false, Bool.and_self, Tr.val]
noncomputable def arc_g : List AV → Option (Tr AV)
  | [.one (.d _ _ (.prod (.int .i64) (.int .i64)) L)] => some (.ret (.one (.v false (.int .i64 (arV L)))))
  | _ => none
set_option maxHeartbeats 4000000 in
theorem arc_ok : FunOK Try.prog 19 arc_g := by
  refine fun_ok (by kernel_rfl) (pmF_S52_ok) (pmF_L53_ok) 9 (On := (opens [])) (fun args t h => ?_)
  unfold arc_g at h
  split at h
  · rename_i _ _ L
    simp only [Option.some.injEq] at h
    subst h
    refine ⟨[.one (.d false false (.prod (.int .i64) (.int .i64)) L)], rfl, fun fr w us h => h, fun r hr => ?_⟩
    simp only [Tr.val, Option.some.injEq] at hr
    subst hr
    rw [arc_tree]
    exact arc_val L
  · cases h
noncomputable def pmF_S54 : Sums := addS 19 arc_g pmF_S52
theorem pmF_S54_ok : SumOK Try.prog pmF_S54 := addS_ok (arc_ok) (pmF_S52_ok)
def l3 (N : Nat) : List (Int × Int) := List.set (List.set (List.replicate N ((0 : Int), (0 : Int))) 1 ((2 : Int), (0 : Int))) 2 ((2 : Int), (3 : Int))
theorem l3_len (N : Nat) : (l3 N).length = N := by unfold l3; simp
theorem l3_get {N i : Nat} (h : i < N) : gP (l3 N) i = if i = 1 then (2, 0) else if i = 2 then (2, 3) else (0, 0) := by
  rw [gP_get (by rw [l3_len]; exact h)]
  unfold l3
  rw [List.getElem_set, List.getElem_set, List.getElem_replicate]
  by_cases h1 : i = 1
  · subst h1; rfl
  · by_cases h2 : i = 2
    · subst h2; rfl
    · rw [if_neg (by omega), if_neg (by omega), if_neg h1, if_neg h2]
theorem l3_usb {N : Nat} (h : N ≤ 8192) : usb (l3 N) = true := by
  unfold usb
  rw [Bool.and_eq_true, List.all_eq_true]
  refine ⟨decide_eq_true (by rw [l3_len]; exact h), fun q hq => ?_⟩
  obtain ⟨i, hi, rfl⟩ := List.getElem_of_mem hq
  rw [← gP_get hi, l3_get (by rw [l3_len] at hi; exact hi)]
  by_cases h1 : i = 1
  · rw [if_pos h1]; decide
  · by_cases h2 : i = 2
    · rw [if_neg h1, if_pos h2]; decide
    · rw [if_neg h1, if_neg h2]; decide
theorem l3_arS {N : Nat} (h : 4 ≤ N) : ∀ j, j ≤ N → arS (l3 N) j = if j ≤ 1 then 0 else 6
  | 0, _ => rfl
  | j + 1, hj => by
    unfold arS
    rw [l3_arS h j (by omega), l3_len]
    by_cases e0 : j = 0
    · subst e0
      rw [Nat.mod_eq_of_lt (by omega), l3_get (by omega), l3_get (by omega)]; rfl
    · by_cases e1 : j = 1
      · subst e1
        rw [Nat.mod_eq_of_lt (by omega), l3_get (by omega), l3_get (by omega)]; rfl
      · rw [if_neg (by omega), if_neg (by omega)]
        by_cases e2 : j = 2
        · subst e2
          rw [Nat.mod_eq_of_lt (by omega), l3_get (by omega), l3_get (by omega)]; rfl
        · rw [l3_get (i := j) (by omega), if_neg e1, if_neg e2]
          show IntKind.wrap IntKind.i64 (6 + IntKind.wrap IntKind.i64 (IntKind.wrap IntKind.i64 ((0 : Int) * _) - IntKind.wrap IntKind.i64 ((0 : Int) * _))) = 6
          rw [Int.zero_mul, Int.zero_mul]; rfl
set_option maxRecDepth 100000 in
theorem law_PlanarLong_tree (n : Int) : evalF Try.prog pmF_S54 (opens []) pmF_L53 9 6 [.one (.v false (.int .u8 n))] = .br (((decide ((0 : Int) ≤ IntKind.wrap IntKind.i64 ((8188 : Int) + IntKind.wrap IntKind.i64 (Int.tmod n (10 : Int)))) && decide (IntKind.wrap IntKind.i64 ((8188 : Int) + IntKind.wrap IntKind.i64 (Int.tmod n (10 : Int))) ≤ IntKind.wrap IntKind.i64 ((8188 : Int) + IntKind.wrap IntKind.i64 (Int.tmod n (10 : Int)))) && decide ((↑(16 : Nat) : Int) * IntKind.wrap IntKind.i64 ((8188 : Int) + IntKind.wrap IntKind.i64 (Int.tmod n (10 : Int))) ≤ (281474976710656 : Int)) && decide (IntKind.wrap IntKind.i64 ((8188 : Int) + IntKind.wrap IntKind.i64 (Int.tmod n (10 : Int))) ≤ (9223372036854775807 : Int))) && ((decide ((0 : Int) ≤ (1 : Int)) && decide ((1 : Int) < (↑(List.length (List.replicate (Int.toNat (IntKind.wrap IntKind.i64 ((8188 : Int) + IntKind.wrap IntKind.i64 (Int.tmod n (10 : Int))))) ((0 : Int), (0 : Int)))) : Int))) && ((decide (Int.toNat (1 : Int) < List.length (List.replicate (Int.toNat (IntKind.wrap IntKind.i64 ((8188 : Int) + IntKind.wrap IntKind.i64 (Int.tmod n (10 : Int))))) ((0 : Int), (0 : Int))))) && ((decide ((0 : Int) ≤ (2 : Int)) && decide ((2 : Int) < (↑(List.length (List.set (List.replicate (Int.toNat (IntKind.wrap IntKind.i64 ((8188 : Int) + IntKind.wrap IntKind.i64 (Int.tmod n (10 : Int))))) ((0 : Int), (0 : Int))) (Int.toNat (1 : Int)) ((2 : Int), (0 : Int)))) : Int))) && (decide (Int.toNat (2 : Int) < List.length (List.set (List.replicate (Int.toNat (IntKind.wrap IntKind.i64 ((8188 : Int) + IntKind.wrap IntKind.i64 (Int.tmod n (10 : Int))))) ((0 : Int), (0 : Int))) (Int.toNat (1 : Int)) ((2 : Int), (0 : Int)))))))))) (.ret (.one (.v false (.bool (bif decide ((↑(List.length (List.set (List.set (List.replicate (Int.toNat (IntKind.wrap IntKind.i64 ((8188 : Int) + IntKind.wrap IntKind.i64 (Int.tmod n (10 : Int))))) ((0 : Int), (0 : Int))) (Int.toNat (1 : Int)) ((2 : Int), (0 : Int))) (Int.toNat (2 : Int)) ((2 : Int), (3 : Int)))) : Int) > (8192 : Int)) then bif arV (List.set (List.set (List.replicate (Int.toNat (IntKind.wrap IntKind.i64 ((8188 : Int) + IntKind.wrap IntKind.i64 (Int.tmod n (10 : Int))))) ((0 : Int), (0 : Int))) (Int.toNat (1 : Int)) ((2 : Int), (0 : Int))) (Int.toNat (2 : Int)) ((2 : Int), (3 : Int))) == (0 : Int) then true else false else bif arV (List.set (List.set (List.replicate (Int.toNat (IntKind.wrap IntKind.i64 ((8188 : Int) + IntKind.wrap IntKind.i64 (Int.tmod n (10 : Int))))) ((0 : Int), (0 : Int))) (Int.toNat (1 : Int)) ((2 : Int), (0 : Int))) (Int.toNat (2 : Int)) ((2 : Int), (3 : Int))) == (6 : Int) then true else false))))) (.bad 116) := by kernel_rfl
set_option maxHeartbeats 4000000 in
theorem law_PlanarLong_all (n : Int)  (l0 : 0 ≤ n) (g0 : n ≤ 255) : Tr.all (fun r => ∃ kn, r = AV.one (.v kn (.bool true))) (.br (((decide ((0 : Int) ≤ IntKind.wrap IntKind.i64 ((8188 : Int) + IntKind.wrap IntKind.i64 (Int.tmod n (10 : Int)))) && decide (IntKind.wrap IntKind.i64 ((8188 : Int) + IntKind.wrap IntKind.i64 (Int.tmod n (10 : Int))) ≤ IntKind.wrap IntKind.i64 ((8188 : Int) + IntKind.wrap IntKind.i64 (Int.tmod n (10 : Int)))) && decide ((↑(16 : Nat) : Int) * IntKind.wrap IntKind.i64 ((8188 : Int) + IntKind.wrap IntKind.i64 (Int.tmod n (10 : Int))) ≤ (281474976710656 : Int)) && decide (IntKind.wrap IntKind.i64 ((8188 : Int) + IntKind.wrap IntKind.i64 (Int.tmod n (10 : Int))) ≤ (9223372036854775807 : Int))) && ((decide ((0 : Int) ≤ (1 : Int)) && decide ((1 : Int) < (↑(List.length (List.replicate (Int.toNat (IntKind.wrap IntKind.i64 ((8188 : Int) + IntKind.wrap IntKind.i64 (Int.tmod n (10 : Int))))) ((0 : Int), (0 : Int)))) : Int))) && ((decide (Int.toNat (1 : Int) < List.length (List.replicate (Int.toNat (IntKind.wrap IntKind.i64 ((8188 : Int) + IntKind.wrap IntKind.i64 (Int.tmod n (10 : Int))))) ((0 : Int), (0 : Int))))) && ((decide ((0 : Int) ≤ (2 : Int)) && decide ((2 : Int) < (↑(List.length (List.set (List.replicate (Int.toNat (IntKind.wrap IntKind.i64 ((8188 : Int) + IntKind.wrap IntKind.i64 (Int.tmod n (10 : Int))))) ((0 : Int), (0 : Int))) (Int.toNat (1 : Int)) ((2 : Int), (0 : Int)))) : Int))) && (decide (Int.toNat (2 : Int) < List.length (List.set (List.replicate (Int.toNat (IntKind.wrap IntKind.i64 ((8188 : Int) + IntKind.wrap IntKind.i64 (Int.tmod n (10 : Int))))) ((0 : Int), (0 : Int))) (Int.toNat (1 : Int)) ((2 : Int), (0 : Int)))))))))) (.ret (.one (.v false (.bool (bif decide ((↑(List.length (List.set (List.set (List.replicate (Int.toNat (IntKind.wrap IntKind.i64 ((8188 : Int) + IntKind.wrap IntKind.i64 (Int.tmod n (10 : Int))))) ((0 : Int), (0 : Int))) (Int.toNat (1 : Int)) ((2 : Int), (0 : Int))) (Int.toNat (2 : Int)) ((2 : Int), (3 : Int)))) : Int) > (8192 : Int)) then bif arV (List.set (List.set (List.replicate (Int.toNat (IntKind.wrap IntKind.i64 ((8188 : Int) + IntKind.wrap IntKind.i64 (Int.tmod n (10 : Int))))) ((0 : Int), (0 : Int))) (Int.toNat (1 : Int)) ((2 : Int), (0 : Int))) (Int.toNat (2 : Int)) ((2 : Int), (3 : Int))) == (0 : Int) then true else false else bif arV (List.set (List.set (List.replicate (Int.toNat (IntKind.wrap IntKind.i64 ((8188 : Int) + IntKind.wrap IntKind.i64 (Int.tmod n (10 : Int))))) ((0 : Int), (0 : Int))) (Int.toNat (1 : Int)) ((2 : Int), (0 : Int))) (Int.toNat (2 : Int)) ((2 : Int), (3 : Int))) == (6 : Int) then true else false))))) (.bad 116)) := by
  have e1 : Int.tmod n 10 = n % 10 := Int.tmod_eq_emod_of_nonneg l0
  have e2 : IntKind.wrap IntKind.i64 (n % 10) = n % 10 := wid (by omega) (by omega)
  obtain ⟨N, hN⟩ : ∃ N : Nat, IntKind.wrap IntKind.i64 (8188 + IntKind.wrap IntKind.i64 (Int.tmod n 10)) = N := ⟨(8188 + n % 10).toNat, by rw [e1, e2, wid (by omega) (by omega)]; omega⟩
  have hb : 8188 ≤ N ∧ N ≤ 8197 := by
    rw [e1, e2, wid (by omega) (by omega)] at hN
    omega
  have eN : Int.toNat (N : Int) = N := Int.toNat_natCast N
  have t1 : Int.toNat (1 : Int) = 1 := rfl
  have t2 : Int.toNat (2 : Int) = 2 := rfl
  have el : List.set (List.set (List.replicate N ((0 : Int), (0 : Int))) 1 ((2 : Int), (0 : Int))) 2 ((2 : Int), (3 : Int)) = l3 N := rfl
  have d1 : decide ((0 : Int) ≤ (N : Int)) = true := decide_eq_true (by omega)
  have d2 : decide ((N : Int) ≤ (N : Int)) = true := decide_eq_true (by omega)
  have d3 : decide (((16 : Nat) : Int) * (N : Int) ≤ 281474976710656) = true := decide_eq_true (by omega)
  have d4 : decide ((N : Int) ≤ 9223372036854775807) = true := decide_eq_true (by omega)
  have d5 : decide ((0 : Int) ≤ 1) = true := rfl
  have d6 : decide ((0 : Int) ≤ 2) = true := rfl
  have d7 : decide ((1 : Int) < (N : Int)) = true := decide_eq_true (by omega)
  have d8 : decide ((2 : Int) < (N : Int)) = true := decide_eq_true (by omega)
  have d9 : decide (1 < N) = true := decide_eq_true (by omega)
  have da : decide (2 < N) = true := decide_eq_true (by omega)
  have key : arV (l3 N) = bif decide ((N : Int) > 8192) then 0 else 6 := by
    unfold arV
    by_cases h : N ≤ 8192
    · rw [l3_usb h, l3_len, l3_arS (by omega) N (Nat.le_refl _), if_neg (by omega), decide_eq_false (by omega)]; rfl
    · have : usb (l3 N) = false := by
        unfold usb
        rw [l3_len, decide_eq_false h]; rfl
      rw [this, decide_eq_true (by omega)]; rfl
  simp only [hN, eN, t1, t2, el, l3_len, key, List.length_set, List.length_replicate, d1, d2, d3, d4, d5, d6, d7, d8, d9, da, Bool.and_self, cond_true]
  by_cases h : (N : Int) > 8192
  · simp only [decide_eq_true h, cond_true, beq_self_eq_true]
    exact ⟨fun _ => ⟨_, rfl⟩, fun h => by cases h⟩
  · simp only [decide_eq_false h, cond_false, beq_self_eq_true, cond_true]
    exact ⟨fun _ => ⟨_, rfl⟩, fun h => by cases h⟩
set_option maxHeartbeats 4000000 in
theorem law_PlanarLong (n : Int) (l0 : 0 ≤ n) (g0 : n ≤ 255) (z_w : World)  : Calls Try.prog 6 #[.int .u8 n] z_w fun e w' => e = .returned (.bool true) ∧ Ext z_w w' := by
  refine law_of_tree (by kernel_rfl) (pmF_S54_ok) (pmF_L53_ok) (law_PlanarLong_tree n) (law_PlanarLong_all n  l0 g0) rfl z_w _ _ (fun _ h => h) ⟨_, _, rfl, rfl, rfl⟩
end Go.Proofs.Ytjjmkmkllphecaa
