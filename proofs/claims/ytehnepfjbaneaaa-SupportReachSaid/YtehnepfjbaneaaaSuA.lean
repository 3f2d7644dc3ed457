/-
  Texts in one: Sup, SuA.
-/
import Derived.Test.YtehnepfjbaneaaaScn
import Derived.Test.YtehnepfjbaneaaaRegM
import Derived.Test.YtehnepfjbaneaaaMor
import Derived.Test.YtehnepfjbaneaaaMoD
import Derived.Test.YtehnepfjbaneaaaProg
import Derived.Test.YtehnepfjbaneaaaFvX
import Derived.Test.YtehnepfjbaneaaaFvZ
import Derived.Test.YtehnepfjbaneaaaAut
import Derived.Test.YtehnepfjbaneaaaRd
import Derived.Test.YtehnepfjbaneaaaPl
import Derived.Test.YtehnepfjbaneaaaRgA
import Derived.Test.YtehnepfjbaneaaaRgB
import Derived.Test.YtehnepfjbaneaaaRgC
import Derived.Test.YtehnepfjbaneaaaRgD
import Derived.Test.YtehnepfjbaneaaaMoB
namespace Go.Proofs.Ytehnepfjbaneaaa
open Go
theorem ne_of0 {a : Int} (h : a = 0) : (a != (0 : Int)) = false := by rw [h]; rfl
theorem chk_ok {R : Rg} {k : Int} (h : (chkE R k != (0 : Int)) = false) : 0 ≤ k ∧ k ≤ 64 ∧ valG R ∧ fitsG R k ∧ dlG R k = sqG true R k := by
  unfold chkE at h
  unfold dlG
  cases hr : rchB k
  · rw [hr] at h; cases h
  · cases hv : valGB R
    · rw [hr, hv] at h; cases h
    · cases hf : fitB R k
      · rw [hr, hv, hf] at h; cases h
      · exact ⟨(rch_iff.1 hr).1, (rch_iff.1 hr).2, valGB_iff.1 hv, fitB_iff.1 hf, rfl⟩
theorem dl_val (R : Rg) (k : Int) : valG (dlG R k) := by
  unfold dlG
  cases rchB k && valGB R && fitB R k
  · exact valG_nil
  · exact sq_val _ _ _
theorem dl_grow {R : Rg} {j k : Int} (hj : chkE R j = 0) (hk : chkE R k = 0) (le : j ≤ k) (x y : Int) (h : memG (dlG R j) x y = true) : memG (dlG R k) x y = true := by
  obtain ⟨j0, j1, v, f, e⟩ := chk_ok (ne_of0 hj)
  obtain ⟨k0, k1, _, g, e2⟩ := chk_ok (ne_of0 hk)
  rw [e, sqG_mem true v j0 j1 (fun _ => f)] at h
  rw [e2, sqG_mem true v k0 k1 (fun _ => g)]
  obtain ⟨dx, dy, d1, d2, d3, d4, m⟩ := h
  exact ⟨dx, dy, by omega, by omega, by omega, by omega, m⟩
noncomputable def ovG (R B : Rg) (k : Int) : Rg := opR 0 R (dlG B k)
/-- The support j layers below the top. -/
noncomputable def supT (L : List Rg) (k g : Int) : Nat → Rg
  | 0 => []
  | j + 1 => opR 0 (opR 2 (supT L k g j) (ovG (L.getD (L.length - 1 - j) []) (L.getD (L.length - 2 - j) []) k)) (dlG (L.getD (L.length - 2 - j) []) g)
theorem sup_val (L : List Rg) (k g : Int) : ∀ j, valG (supT L k g j)
  | 0 => valG_nil
  | _ + 1 => opR_val _ _ _
theorem ov_val (R B : Rg) (k : Int) : valG (ovG R B k) := opR_val _ _ _
theorem ov_mem {R B : Rg} {k : Int} (h : valG R) (x y : Int) : memG (ovG R B k) x y = (memG R x y && !memG (dlG B k) x y) := opR_mem h (dl_val _ _) 0 x y
theorem sup_mem {L : List Rg} {k g : Int} {j : Nat} (h : valG (L.getD (L.length - 1 - j) [])) (x y : Int) : memG (supT L k g (j + 1)) x y = ((memG (supT L k g j) x y || (memG (L.getD (L.length - 1 - j) []) x y && !memG (dlG (L.getD (L.length - 2 - j) []) k) x y)) && !memG (dlG (L.getD (L.length - 2 - j) []) g) x y) := by
  show memG (opR 0 (opR 2 _ _) _) x y = _
  rw [opR_mem (opR_val _ _ _) (dl_val _ _), opR_mem (sup_val _ _ _ _) (ov_val _ _ _), ov_mem h]
  rfl
theorem holds_law {L : List Rg} {k g : Int} {j : Nat} (h : valG (L.getD (L.length - 1 - j) [])) : withinG (opR 2 (ovG (L.getD (L.length - 1 - j) []) (L.getD (L.length - 2 - j) []) k) (supT L k g j)) (opR 2 (supT L k g (j + 1)) (dlG (L.getD (L.length - 2 - j) []) g)) = true := by
  refine (within_iff (opR_val _ _ _) (opR_val _ _ _)).2 fun x y m => ?_
  rw [opR_mem (ov_val _ _ _) (sup_val _ _ _ _), ov_mem h] at m
  rw [opR_mem (sup_val _ _ _ _) (dl_val _ _), sup_mem h]
  have m : ((memG (L.getD (L.length - 1 - j) []) x y && !memG (dlG (L.getD (L.length - 2 - j) []) k) x y) || memG (supT L k g j) x y) = true := m
  show (_ || _) = true
  revert m
  cases (memG (L.getD (L.length - 1 - j) []) x y && !memG (dlG (L.getD (L.length - 2 - j) []) k) x y) <;> cases memG (supT L k g j) x y <;> cases memG (dlG (L.getD (L.length - 2 - j) []) g) x y <;> simp
theorem clear_law {L : List Rg} {k g : Int} {j : Nat} (h : valG (L.getD (L.length - 1 - j) [])) : opR 1 (supT L k g (j + 1)) (dlG (L.getD (L.length - 2 - j) []) g) = [] := by
  refine empty_G (opR_val _ _ _) fun x y => ?_
  rw [opR_mem (sup_val _ _ _ _) (dl_val _ _), sup_mem h]
  show (_ && _) = false
  cases memG (dlG (L.getD (L.length - 2 - j) []) g) x y <;> simp
theorem clear_in {L : List Rg} {k g : Int} {j : Nat} (h : valG (L.getD (L.length - 1 - j) [])) : withinG (supT L k g (j + 1)) (opR 2 (L.getD (L.length - 1 - j) []) (supT L k g j)) = true := by
  refine (within_iff (sup_val _ _ _ _) (opR_val _ _ _)).2 fun x y m => ?_
  rw [sup_mem h] at m
  rw [opR_mem h (sup_val _ _ _ _)]
  show (_ || _) = true
  revert m
  cases memG (L.getD (L.length - 1 - j) []) x y <;> cases memG (supT L k g j) x y <;> simp
theorem reach_law {L : List Rg} {k k' g : Int} (le : k ≤ k') (hv : ∀ i, valG (L.getD i [])) (hk : ∀ i, i + 1 < L.length → chkE (L.getD i []) k = 0 ∧ chkE (L.getD i []) k' = 0) : ∀ j, j < L.length → ∀ x y, memG (supT L k' g j) x y = true → memG (supT L k g j) x y = true
  | 0, _, _, _, h => h
  | j + 1, hj, x, y, h => by
    have r := reach_law (g := g) le hv hk j (by omega) x y
    have d := dl_grow (hk (L.length - 2 - j) (by omega)).1 (hk (L.length - 2 - j) (by omega)).2 le x y
    rw [sup_mem (hv _)] at h ⊢
    revert h r d
    cases memG (supT L k' g j) x y <;> cases memG (supT L k g j) x y <;> cases memG (L.getD (L.length - 1 - j) []) x y <;> cases memG (dlG (L.getD (L.length - 2 - j) []) k) x y <;> cases memG (dlG (L.getD (L.length - 2 - j) []) k') x y <;> cases memG (dlG (L.getD (L.length - 2 - j) []) g) x y <;> simp
end Go.Proofs.Ytehnepfjbaneaaa

namespace Go.Proofs.Ytehnepfjbaneaaa
open Go
set_option maxRecDepth 100000 in
theorem witc_tree (A : (Ty.list (.prod (.int .i64) (.list (.prod (.int .i64) (.int .i64))))).den) (B : (Ty.list (.prod (.int .i64) (.list (.prod (.int .i64) (.int .i64))))).den) : evalF Try.prog moD_S54 (opens []) moD_L52 9 11 [.ag [.d false false (.prod (.int .i64) (.list (.prod (.int .i64) (.int .i64)))) A], .ag [.d false false (.prod (.int .i64) (.list (.prod (.int .i64) (.int .i64)))) B]] = .br (((szG A) && (bif valGB A then ((szG B) && (bif valGB B then (szG A && szG B) else true)) else true))) (.ret (.one (.v false (.bool (bif valGB A then bif valGB B then (↑(List.length (opR (0 : Int) A B)) : Int) == (0 : Int) else false else false))))) (.bad 116) := by kernel_rfl
theorem witc_val (A : (Ty.list (.prod (.int .i64) (.list (.prod (.int .i64) (.int .i64))))).den) (B : (Ty.list (.prod (.int .i64) (.list (.prod (.int .i64) (.int .i64))))).den) (hc : (szG A && szG B) = true) : (.br (((szG A) && (bif valGB A then ((szG B) && (bif valGB B then (szG A && szG B) else true)) else true))) (.ret (.one (.v false (.bool (bif valGB A then bif valGB B then (↑(List.length (opR (0 : Int) A B)) : Int) == (0 : Int) else false else false))))) (.bad 116) : Tr AV).val = some (.one (.v false (.bool (withinG A B)))) := by
  obtain ⟨K, rfl⟩ : ∃ K : Rg, K = A := ⟨A, rfl⟩
  obtain ⟨M, rfl⟩ : ∃ K : Rg, K = B := ⟨B, rfl⟩
  rw [Bool.and_eq_true] at hc
  have h1 : szG K = true := hc.1
  have h2 : szG M = true := hc.2
  have e : (((opR 0 K M).length : Int) == (0 : Int)) = decide (opR 0 K M = []) := by
    rw [Bool.eq_iff_iff, beq_iff_eq, decide_eq_true_eq, ← List.length_eq_zero_iff]
    omega
  unfold withinG
  show cond _ _ _ = _
  rw [e]
  cases hv : valGB K
  · simp only [h1, Bool.and_self, Bool.false_and, cond_true, cond_false, Tr.val]
  · cases hw : valGB M
    · simp only [h1, h2, Bool.and_self, Bool.and_false, Bool.false_and, cond_true, cond_false, Tr.val]
    · simp only [h1, h2, Bool.and_self, Bool.true_and, cond_true, Tr.val]
noncomputable def witc_g : List AV → Option (Tr AV)
  | [.ag [.d _ _ (.prod (.int .i64) (.list (.prod (.int .i64) (.int .i64)))) A], .ag [.d _ _ (.prod (.int .i64) (.list (.prod (.int .i64) (.int .i64)))) B]] => some (.br (szG A && szG B) (.ret (.one (.v false (.bool (withinG A B))))) (.bad 900))
  | _ => none
set_option maxHeartbeats 4000000 in
theorem witc_ok : FunOK Try.prog 11 witc_g := by
  refine fun_ok (by kernel_rfl) (moD_S54_ok) (moD_L52_ok) 9 (On := (opens [])) (fun args t h => ?_)
  unfold witc_g at h
  split at h
  · rename_i _ _ A _ _ B
    simp only [Option.some.injEq] at h
    subst h
    refine ⟨[.ag [.d false false (.prod (.int .i64) (.list (.prod (.int .i64) (.int .i64)))) A], .ag [.d false false (.prod (.int .i64) (.list (.prod (.int .i64) (.int .i64)))) B]], rfl, fun fr w us h => h, fun r hr => ?_⟩
    obtain ⟨hc, hr⟩ := br_bad hr
    simp only [Tr.val, Option.some.injEq] at hr
    subst hr
    rw [witc_tree]
    exact witc_val A B hc
  · cases h
noncomputable def suA_S51 : Sums := addS 11 witc_g moD_S54
theorem suA_S51_ok : SumOK Try.prog suA_S51 := addS_ok (witc_ok) (moD_S54_ok)
noncomputable def ovE (R B : Rg) (k : Int) : Int := bif valGB R then chkE B k else 1
noncomputable def ovR (R B : Rg) (k : Int) : Rg := bif ovE R B k == 0 then ovG R B k else []
noncomputable def smL (L : List Rg) : Bool := decide (L.length ≤ 12) && L.all szG
theorem ov_ok {R B : Rg} {k : Int} (h : valG R) : ovE R B k = chkE B k ∧ (chkE B k = 0 → ovR R B k = ovG R B k) := by
  unfold ovR ovE
  rw [valGB_t h]
  exact ⟨rfl, fun e => by rw [cond_true, e]; rfl⟩
theorem ovR_val (R B : Rg) (k : Int) : valG (ovR R B k) := by
  unfold ovR
  cases ovE R B k == 0
  · exact valG_nil
  · exact ov_val _ _ _
set_option maxRecDepth 100000 in
theorem ovc_tree (R : (Ty.list (.prod (.int .i64) (.list (.prod (.int .i64) (.int .i64))))).den) (B : (Ty.list (.prod (.int .i64) (.list (.prod (.int .i64) (.int .i64))))).den) (k : Int) : evalF Try.prog suA_S51 (opens []) moD_L52 9 9 [.ag [.d false false (.prod (.int .i64) (.list (.prod (.int .i64) (.int .i64)))) R], .ag [.d false false (.prod (.int .i64) (.list (.prod (.int .i64) (.int .i64)))) B], .one (.v false (.int .i64 k))] = .br (((szG R) && (bif !valGB R then true else ((szG B) && (bif chkE B k != (0 : Int) then true else (szG R && szG (dlG B k))))))) (.ret (.tup [(true, [.d false false (.prod (.int .i64) (.list (.prod (.int .i64) (.int .i64)))) (bif !valGB R then [] else bif chkE B k != (0 : Int) then [] else opR (0 : Int) R (dlG B k))]), (false, [.v false (.int .i64 (bif !valGB R then (1 : Int) else bif chkE B k != (0 : Int) then chkE B k else (0 : Int)))])])) (.bad 116) := by kernel_rfl
theorem ovc_val (R : (Ty.list (.prod (.int .i64) (.list (.prod (.int .i64) (.int .i64))))).den) (B : (Ty.list (.prod (.int .i64) (.list (.prod (.int .i64) (.int .i64))))).den) (k : Int) (hc : (szG R && szG B) = true) : (.br (((szG R) && (bif !valGB R then true else ((szG B) && (bif chkE B k != (0 : Int) then true else (szG R && szG (dlG B k))))))) (.ret (.tup [(true, [.d false false (.prod (.int .i64) (.list (.prod (.int .i64) (.int .i64)))) (bif !valGB R then [] else bif chkE B k != (0 : Int) then [] else opR (0 : Int) R (dlG B k))]), (false, [.v false (.int .i64 (bif !valGB R then (1 : Int) else bif chkE B k != (0 : Int) then chkE B k else (0 : Int)))])])) (.bad 116) : Tr AV).val = some (.tup [(true, [.d false false (.prod (.int .i64) (.list (.prod (.int .i64) (.int .i64)))) (ovR R B k)]), (false, [.v false (.int .i64 (ovE R B k))])]) := by
  obtain ⟨K, rfl⟩ : ∃ K : Rg, K = R := ⟨R, rfl⟩
  obtain ⟨M, rfl⟩ : ∃ K : Rg, K = B := ⟨B, rfl⟩
  rw [Bool.and_eq_true] at hc
  have h1 : szG K = true := hc.1
  have h2 : szG M = true := hc.2
  have h3 : szG (dlG M k) = true := val_sz (dl_val M k)
  unfold ovR ovE ovG
  show cond _ _ _ = _
  cases hv : valGB K
  · simp only [h1, Bool.not_false, Bool.and_self, cond_true, cond_false, Tr.val]
    rfl
  · cases he : chkE M k == (0 : Int)
    · have hb : (chkE M k != (0 : Int)) = true := by rw [bne, he]; rfl
      simp only [h1, h2, hb, Bool.not_true, Bool.and_self, cond_true, cond_false, Tr.val]
      rw [he]; rfl
    · have hb : (chkE M k != (0 : Int)) = false := by rw [bne, he]; rfl
      have e0 : chkE M k = 0 := beq_iff_eq.1 he
      simp only [h1, h2, h3, hb, e0, Bool.not_true, Bool.and_self, cond_true, cond_false, Tr.val]
      rfl
noncomputable def ovc_g : List AV → Option (Tr AV)
  | [.ag [.d _ _ (.prod (.int .i64) (.list (.prod (.int .i64) (.int .i64)))) R], .ag [.d _ _ (.prod (.int .i64) (.list (.prod (.int .i64) (.int .i64)))) B], .one (.v _ (.int .i64 k))] => some (.br (szG R && szG B) (.ret (.tup [(true, [.d false false (.prod (.int .i64) (.list (.prod (.int .i64) (.int .i64)))) (ovR R B k)]), (false, [.v false (.int .i64 (ovE R B k))])])) (.bad 900))
  | _ => none
set_option maxHeartbeats 4000000 in
theorem ovc_ok : FunOK Try.prog 9 ovc_g := by
  refine fun_ok (by kernel_rfl) (suA_S51_ok) (moD_L52_ok) 9 (On := (opens [])) (fun args t h => ?_)
  unfold ovc_g at h
  split at h
  · rename_i _ _ R _ _ B _ k
    simp only [Option.some.injEq] at h
    subst h
    refine ⟨[.ag [.d false false (.prod (.int .i64) (.list (.prod (.int .i64) (.int .i64)))) R], .ag [.d false false (.prod (.int .i64) (.list (.prod (.int .i64) (.int .i64)))) B], .one (.v false (.int .i64 k))], rfl, fun fr w us h => h, fun r hr => ?_⟩
    obtain ⟨hc, hr⟩ := br_bad hr
    simp only [Tr.val, Option.some.injEq] at hr
    subst hr
    rw [ovc_tree]
    exact ovc_val R B k hc
  · cases h
noncomputable def suA_S52 : Sums := addS 9 ovc_g suA_S51
theorem suA_S52_ok : SumOK Try.prog suA_S52 := addS_ok (ovc_ok) (suA_S51_ok)
abbrev sm2_U : Type := (Ty.list (.list (.prod (.int .i64) (.list (.prod (.int .i64) (.int .i64)))))).den
abbrev sm2_V : Type := Bool × Int
noncomputable def sm2_St (u : sm2_U) (v : sm2_V) : Stt := ⟨[.one (.d false false (.list (.prod (.int .i64) (.list (.prod (.int .i64) (.int .i64))))) u), .one .junk, .one (.v false (.bool v.1)), .one (.v false (.int .i64 v.2)), .one .junk, .one .junk, .one .junk, .one .junk, .one .junk, .one .junk, .one .junk, .one .junk, .one .junk, .one .junk, .one .junk, .one .junk, .one .junk, .one .junk, .one .junk], [], 1005⟩
def el_lilii (l : (Ty.list (Ty.list (Ty.prod (Ty.int IntKind.i64) (Ty.list (Ty.prod (Ty.int IntKind.i64) (Ty.int IntKind.i64)))))).den) (i : Int) : (List (Int × (List (Int × Int)))) := elm (Ty.list (Ty.prod (Ty.int IntKind.i64) (Ty.list (Ty.prod (Ty.int IntKind.i64) (Ty.int IntKind.i64))))) l i
noncomputable def sm2_step (u : sm2_U) (v : sm2_V) : Tr (sm2_V ⊕ (Nat × sm2_V)) :=
  match u, v with
  | q0, (q1, q2) => .br (decide (q2 < (↑(List.length q0) : Int))) (.br (decide ((0 : Int) ≤ q2) && decide (q2 < (↑(List.length q0) : Int))) (.br (!smG (el_lilii q0 q2)) (.ret (.inr (0, (false, q2)))) (.ret (.inl (q1, IntKind.wrap IntKind.i64 (q2 + (1 : Int)))))) (.bad 29)) (.ret (.inr (1, (q1, q2))))
set_option maxRecDepth 100000 in
set_option maxHeartbeats 4000000 in
theorem sm2_step_eq : ∀ (u : sm2_U) (v : sm2_V), (evalC Try.prog (evalB Try.prog suA_S52 (opens []) moD_L52 7).1 (evalB Try.prog suA_S52 (opens []) moD_L52 7).2 (opens []) (moD_L52 6) 100000 (0 :: [0, 1, 0, 1, 1]) (loopOf (bodyOf Try.prog 6) [1, 1, 0, 1, 0]) (sm2_St u v) []).bind (finF [1, 4, 5, 6, 7, 8, 9, 10, 11, 12, 13, 14, 15, 16, 17, 18] [] [] [] 1005) = (sm2_step u v).bind (outA (sm2_St u) [.ret, .exit 0]) := by
  rintro q0 ⟨q1, q2⟩
  kernel_rfl
noncomputable def sm2_rd (b : Bool) (o0 : Option AV) (o2 : Option AV) (o3 : Option AV) (own : Own) : Option (sm2_U × sm2_V) := zrT b <| zrO o0 fun za1 => zrA1 za1 fun zc2 => zrD (.list (.prod (.int .i64) (.list (.prod (.int .i64) (.int .i64))))) zc2 fun q0 => zrO o2 fun za3 => zrA1 za3 fun zc4 => zrB zc4 fun q1 => zrO o3 fun za5 => zrA1 za5 fun zc6 => zrI .i64 zc6 fun q2 => zrN own <| some (q0, (q1, q2))
noncomputable def sm2_can (st : Stt) : Stt := canA [1, 4, 5, 6, 7, 8, 9, 10, 11, 12, 13, 14, 15, 16, 17, 18] [] [] [] 1005 st
noncomputable def sm2_cok (st : Stt) : Bool := canAok [1, 4, 5, 6, 7, 8, 9, 10, 11, 12, 13, 14, 15, 16, 17, 18] [] [] [] 1005 st
noncomputable def sm2_read (st : Stt) : Option (sm2_U × sm2_V) := sm2_rd (sm2_cok st && (staysA [] [] st.own && juAll [1, 4, 5, 6, 7, 8, 9, 10, 11, 12, 13, 14, 15, 16, 17, 18] (sm2_can st).tm 19)) (sm2_can st).tm[0]? (sm2_can st).tm[2]? (sm2_can st).tm[3]? (sm2_can st).own
set_option maxRecDepth 100000 in
set_option maxHeartbeats 4000000 in
theorem sm2_rd_ok {b : Bool} {tm : List AV} {own : Own} {u : sm2_U} {v : sm2_V} (hj : b = true → juAll [1, 4, 5, 6, 7, 8, 9, 10, 11, 12, 13, 14, 15, 16, 17, 18] tm 19 = true) (h : sm2_rd b tm[0]? tm[2]? tm[3]? own = some (u, v)) : b = true ∧ tm = (sm2_St u v).tm ∧ own = (sm2_St u v).own := by
  unfold sm2_rd at h
  obtain ⟨rfl, h0⟩ := zrT_some h
  obtain ⟨za1, e0, h1⟩ := zrO_some h0
  obtain ⟨zc2, rfl, h2⟩ := zrA1_some h1
  obtain ⟨q0, rfl, h3⟩ := zrD_some h2
  obtain ⟨za3, e2, h4⟩ := zrO_some h3
  obtain ⟨zc4, rfl, h5⟩ := zrA1_some h4
  obtain ⟨q1, rfl, h6⟩ := zrB_some h5
  obtain ⟨za5, e3, h7⟩ := zrO_some h6
  obtain ⟨zc6, rfl, h8⟩ := zrA1_some h7
  obtain ⟨q2, rfl, h9⟩ := zrI_some h8
  obtain ⟨rfl, h10⟩ := zrN_some h9
  have h := Option.some.inj h10
  have hu := congrArg Prod.fst h
  have hv := congrArg Prod.snd h
  dsimp only at hu hv
  subst hu
  subst hv
  exact ⟨rfl, (tm_fill (hj rfl) (Lv := [(0, .one (.d false false (.list (.prod (.int .i64) (.list (.prod (.int .i64) (.int .i64))))) q0)), (2, .one (.v false (.bool q1))), (3, .one (.v false (.int .i64 q2)))]) (by kernel_rfl) ⟨e0, e2, e3, trivial⟩).trans (by kernel_rfl), rfl⟩
theorem sm2_read_ok (st : Stt) (u : sm2_U) (v : sm2_V) (h : sm2_read st = some (u, v)) : sm2_cok st = true ∧ staysA [] [] st.own = true ∧ sm2_can st = sm2_St u v := by
  obtain ⟨h1, h2, h3⟩ := sm2_rd_ok (fun hb => by rw [Bool.and_eq_true, Bool.and_eq_true] at hb; exact hb.2.2) h
  rw [Bool.and_eq_true, Bool.and_eq_true] at h1
  refine ⟨h1.1, h1.2.1, ?_⟩
  have e : sm2_can st = ⟨(sm2_can st).tm, (sm2_can st).own, 1005⟩ := by kernel_rfl
  rw [e, h2, h3]
  rfl
noncomputable def sm2_cond (u : sm2_U) (v : sm2_V) : Bool := runC (sm2_step u) v
noncomputable def sm2_g (u : sm2_U) (v : sm2_V) : Nat × sm2_V := runG (sm2_step u) v
theorem sm2_hg : ∀ (u : sm2_U) (v : sm2_V), sm2_cond u v = true → loopN (sm2_step u) ((fun u v => runF (sm2_step u) v) u v) v = some (sm2_g u v) := by
  exact fun u v h => run_hg h
noncomputable def sm2_m (st : Stt) : Option (Tr (Ex × Stt)) := sumM sm2_read sm2_cond sm2_St sm2_g [(0, .ret), (1, .exit 0)] st
noncomputable def suA_L53 : FuncId → Loops := addL 6 [0, 1, 0, 1, 1] sm2_m moD_L52
set_option maxRecDepth 100000 in
set_option maxHeartbeats 4000000 in
theorem suA_L53_ok : LoopsOK Try.prog suA_L53 :=
  loop_sumF (body := (bodyOf Try.prog 6)) (c := (loopOf (bodyOf Try.prog 6) [1, 1, 0, 1, 0])) (kinds := [.ret, .exit 0]) (allow := [(0, .ret), (1, .exit 0)]) (St := sm2_St) (step := sm2_step) (W := [1, 4, 5, 6, 7, 8, 9, 10, 11, 12, 13, 14, 15, 16, 17, 18]) (As := []) (ks := []) (dd := []) (nx := 1005) (n := 100000) (g := sm2_g) (cond := sm2_cond) (fuel := (fun u v => runF (sm2_step u) v)) (read := sm2_read) (by kernel_rfl) (suA_S52_ok) (moD_L52_ok) 7 ⟨Try.f6, by kernel_rfl, by kernel_rfl⟩ (by kernel_rfl) (by kernel_rfl) (by kernel_rfl) sm2_step_eq sm2_hg sm2_read_ok
abbrev ixf_U : Type := (Ty.list (.list (.prod (.int .i64) (.list (.prod (.int .i64) (.int .i64)))))).den × Int
abbrev ixf_V : Type := Int × Int
noncomputable def ixf_St (u : ixf_U) (v : ixf_V) : Stt := ⟨[.one (.d false false (.list (.prod (.int .i64) (.list (.prod (.int .i64) (.int .i64))))) u.1), .one (.fn 20 []), .one .junk, .one .junk, .one (.v false (.int .i64 v.1)), .one .junk, .one .junk, .one (.v false (.int .i64 u.2)), .one (.v false (.int .i64 v.2)), .one .junk, .one .junk, .one .junk, .one .junk, .one .junk, .one .junk, .one .junk, .one .junk, .one .junk, .one .junk], [], 1004⟩
noncomputable def ixf_step (u : ixf_U) (v : ixf_V) : Tr (ixf_V ⊕ (Nat × ixf_V)) :=
  match u, v with
  | (q0, q2), (q1, q3) => .br (decide (q3 < q2)) (.br (decide ((0 : Int) ≤ q3) && decide (q3 < (↑(List.length q0) : Int))) (.br ((szG (el_lilii q0 q3))) (.br (!valGB (el_lilii q0 q3)) (.ret (.inr (0, (q3, q3)))) (.ret (.inl (q1, IntKind.wrap IntKind.i64 (q3 + (1 : Int)))))) (.bad 116)) (.bad 29)) (.ret (.inr (1, (q1, q3))))
set_option maxRecDepth 100000 in
set_option maxHeartbeats 4000000 in
theorem ixf_step_eq : ∀ (u : ixf_U) (v : ixf_V), (evalC Try.prog (evalB Try.prog suA_S52 (opens []) suA_L53 7).1 (evalB Try.prog suA_S52 (opens []) suA_L53 7).2 (opens []) (suA_L53 32) 100000 (0 :: [0, 1, 0, 1]) (loopOf (bodyOf Try.prog 32) [1, 0, 1, 0]) (ixf_St u v) []).bind (finF [2, 3, 5, 6, 9, 10, 11, 12, 13, 14, 15, 16, 17, 18] [] [] [] 1004) = (ixf_step u v).bind (outA (ixf_St u) [.ret, .exit 0]) := by
  rintro ⟨q0, q2⟩ ⟨q1, q3⟩
  kernel_rfl
noncomputable def ixf_rd (b : Bool) (o0 : Option AV) (o1 : Option AV) (o4 : Option AV) (o7 : Option AV) (o8 : Option AV) (own : Own) : Option (ixf_U × ixf_V) := zrT b <| zrO o0 fun za1 => zrA1 za1 fun zc2 => zrD (.list (.prod (.int .i64) (.list (.prod (.int .i64) (.int .i64))))) zc2 fun q0 => zrO o1 fun za3 => zrA1 za3 fun zc4 => zrF 20 [] zc4 <| zrO o4 fun za5 => zrA1 za5 fun zc6 => zrI .i64 zc6 fun q1 => zrO o7 fun za7 => zrA1 za7 fun zc8 => zrI .i64 zc8 fun q2 => zrO o8 fun za9 => zrA1 za9 fun zc10 => zrI .i64 zc10 fun q3 => zrN own <| some ((q0, q2), (q1, q3))
noncomputable def ixf_can (st : Stt) : Stt := canA [2, 3, 5, 6, 9, 10, 11, 12, 13, 14, 15, 16, 17, 18] [] [] [] 1004 st
noncomputable def ixf_cok (st : Stt) : Bool := canAok [2, 3, 5, 6, 9, 10, 11, 12, 13, 14, 15, 16, 17, 18] [] [] [] 1004 st
noncomputable def ixf_read (st : Stt) : Option (ixf_U × ixf_V) := ixf_rd (ixf_cok st && (staysA [] [] st.own && juAll [2, 3, 5, 6, 9, 10, 11, 12, 13, 14, 15, 16, 17, 18] (ixf_can st).tm 19)) (ixf_can st).tm[0]? (ixf_can st).tm[1]? (ixf_can st).tm[4]? (ixf_can st).tm[7]? (ixf_can st).tm[8]? (ixf_can st).own
set_option maxRecDepth 100000 in
set_option maxHeartbeats 4000000 in
theorem ixf_rd_ok {b : Bool} {tm : List AV} {own : Own} {u : ixf_U} {v : ixf_V} (hj : b = true → juAll [2, 3, 5, 6, 9, 10, 11, 12, 13, 14, 15, 16, 17, 18] tm 19 = true) (h : ixf_rd b tm[0]? tm[1]? tm[4]? tm[7]? tm[8]? own = some (u, v)) : b = true ∧ tm = (ixf_St u v).tm ∧ own = (ixf_St u v).own := by
  unfold ixf_rd at h
  obtain ⟨rfl, h0⟩ := zrT_some h
  obtain ⟨za1, e0, h1⟩ := zrO_some h0
  obtain ⟨zc2, rfl, h2⟩ := zrA1_some h1
  obtain ⟨q0, rfl, h3⟩ := zrD_some h2
  obtain ⟨za3, e1, h4⟩ := zrO_some h3
  obtain ⟨zc4, rfl, h5⟩ := zrA1_some h4
  obtain ⟨rfl, h6⟩ := zrF_some h5
  obtain ⟨za5, e4, h7⟩ := zrO_some h6
  obtain ⟨zc6, rfl, h8⟩ := zrA1_some h7
  obtain ⟨q1, rfl, h9⟩ := zrI_some h8
  obtain ⟨za7, e7, h10⟩ := zrO_some h9
  obtain ⟨zc8, rfl, h11⟩ := zrA1_some h10
  obtain ⟨q2, rfl, h12⟩ := zrI_some h11
  obtain ⟨za9, e8, h13⟩ := zrO_some h12
  obtain ⟨zc10, rfl, h14⟩ := zrA1_some h13
  obtain ⟨q3, rfl, h15⟩ := zrI_some h14
  obtain ⟨rfl, h16⟩ := zrN_some h15
  have h := Option.some.inj h16
  have hu := congrArg Prod.fst h
  have hv := congrArg Prod.snd h
  dsimp only at hu hv
  subst hu
  subst hv
  exact ⟨rfl, (tm_fill (hj rfl) (Lv := [(0, .one (.d false false (.list (.prod (.int .i64) (.list (.prod (.int .i64) (.int .i64))))) q0)), (1, .one (.fn 20 [])), (4, .one (.v false (.int .i64 q1))), (7, .one (.v false (.int .i64 q2))), (8, .one (.v false (.int .i64 q3)))]) (by kernel_rfl) ⟨e0, e1, e4, e7, e8, trivial⟩).trans (by kernel_rfl), rfl⟩
theorem ixf_read_ok (st : Stt) (u : ixf_U) (v : ixf_V) (h : ixf_read st = some (u, v)) : ixf_cok st = true ∧ staysA [] [] st.own = true ∧ ixf_can st = ixf_St u v := by
  obtain ⟨h1, h2, h3⟩ := ixf_rd_ok (fun hb => by rw [Bool.and_eq_true, Bool.and_eq_true] at hb; exact hb.2.2) h
  rw [Bool.and_eq_true, Bool.and_eq_true] at h1
  refine ⟨h1.1, h1.2.1, ?_⟩
  have e : ixf_can st = ⟨(ixf_can st).tm, (ixf_can st).own, 1004⟩ := by kernel_rfl
  rw [e, h2, h3]
  rfl
noncomputable def ixf_cond (u : ixf_U) (v : ixf_V) : Bool := runC (ixf_step u) v
noncomputable def ixf_g (u : ixf_U) (v : ixf_V) : Nat × ixf_V := runG (ixf_step u) v
theorem ixf_hg : ∀ (u : ixf_U) (v : ixf_V), ixf_cond u v = true → loopN (ixf_step u) ((fun u v => runF (ixf_step u) v) u v) v = some (ixf_g u v) := by
  exact fun u v h => run_hg h
noncomputable def ixf_m (st : Stt) : Option (Tr (Ex × Stt)) := sumM ixf_read ixf_cond ixf_St ixf_g [(0, .ret), (1, .exit 0)] st
noncomputable def suA_L54 : FuncId → Loops := addL 32 [0, 1, 0, 1] ixf_m suA_L53
set_option maxRecDepth 100000 in
set_option maxHeartbeats 4000000 in
theorem suA_L54_ok : LoopsOK Try.prog suA_L54 :=
  loop_sumF (body := (bodyOf Try.prog 32)) (c := (loopOf (bodyOf Try.prog 32) [1, 0, 1, 0])) (kinds := [.ret, .exit 0]) (allow := [(0, .ret), (1, .exit 0)]) (St := ixf_St) (step := ixf_step) (W := [2, 3, 5, 6, 9, 10, 11, 12, 13, 14, 15, 16, 17, 18]) (As := []) (ks := []) (dd := []) (nx := 1004) (n := 100000) (g := ixf_g) (cond := ixf_cond) (fuel := (fun u v => runF (ixf_step u) v)) (read := ixf_read) (by kernel_rfl) (suA_S52_ok) (suA_L53_ok) 7 ⟨Try.f32, by kernel_rfl, by kernel_rfl⟩ (by kernel_rfl) (by kernel_rfl) (by kernel_rfl) ixf_step_eq ixf_hg ixf_read_ok
abbrev sup_U : Type := Int × Int × (Ty.list (.list (.prod (.int .i64) (.list (.prod (.int .i64) (.int .i64)))))).den
abbrev sup_V : Type := Int × Int × (Ty.list (.list (.prod (.int .i64) (.list (.prod (.int .i64) (.int .i64)))))).den
noncomputable def sup_St (u : sup_U) (v : sup_V) : Stt := ⟨[.one .junk, .one .junk, .one .junk, .one .junk, .one .junk, .one .junk, .one (.v false (Value.slice none (0 : Nat) (0 : Nat))), .one (.v false (.int .i64 v.1)), .one (.p 23 0), .one (.fn 22 [((0 : Nat), (0 : Nat)), ((1 : Nat), (0 : Nat)), ((2 : Nat), (0 : Nat)), ((23 : Nat), (0 : Nat))]), .one (.v false (.int .i64 v.2.1)), .one .junk, .one .junk, .one .junk, .one .junk, .one .junk, .one .junk, .one .junk, .one .junk, .one .junk, .one .junk, .one .junk, .one .junk, .one .junk, .one .junk, .one .junk, .one .junk, .one .junk, .one .junk, .one .junk, .one .junk, .one .junk, .one .junk, .one .junk, .one .junk, .one .junk, .one .junk, .one .junk, .one .junk, .one .junk, .one .junk, .one .junk, .one .junk, .one .junk, .one .junk], [(23, .cells [.s false 22 0 (none)]), (22, .row true false false 30 (.list (.prod (.int .i64) (.list (.prod (.int .i64) (.int .i64))))) v.2.2), (2, .cells [.v false (.int .i64 u.1)]), (1, .cells [.v false (.int .i64 u.2.1)]), (0, .cells [.d false false (.list (.prod (.int .i64) (.list (.prod (.int .i64) (.int .i64))))) u.2.2])], 1031⟩
noncomputable def sup_step (u : sup_U) (v : sup_V) : Tr (sup_V ⊕ (Nat × sup_V)) :=
  match u, v with
  | (q3, q4, q5), (q0, q1, q2) => .br (decide (q1 ≥ (0 : Int))) (.br (decide ((0 : Int) ≤ IntKind.wrap IntKind.i64 (q1 + (1 : Int))) && decide (IntKind.wrap IntKind.i64 (q1 + (1 : Int)) < (↑(List.length q5) : Int))) (.br (decide ((0 : Int) ≤ q1) && decide (q1 < (↑(List.length q5) : Int))) (.br (szG (el_lilii q5 (IntKind.wrap IntKind.i64 (q1 + (1 : Int)))) && szG (el_lilii q5 q1)) (.br (ovE (el_lilii q5 (IntKind.wrap IntKind.i64 (q1 + (1 : Int)))) (el_lilii q5 q1) q4 != (0 : Int)) (.br (ovE (el_lilii q5 (IntKind.wrap IntKind.i64 (q1 + (1 : Int)))) (el_lilii q5 q1) q4 != (0 : Int)) (.ret (.inr (0, (ovE (el_lilii q5 (IntKind.wrap IntKind.i64 (q1 + (1 : Int)))) (el_lilii q5 q1) q4, q1, q2)))) (.ret (.inl (q0, IntKind.wrap IntKind.i64 (q1 - (1 : Int)), q2)))) (.br (decide ((0 : Int) ≤ q1) && decide (q1 < (↑(List.length q5) : Int))) (.br (szG (el_lilii q5 q1)) (.br (chkE (el_lilii q5 q1) q3 != (0 : Int)) (.br (chkE (el_lilii q5 q1) q3 != (0 : Int)) (.ret (.inr (0, (chkE (el_lilii q5 q1) q3, q1, q2)))) (.ret (.inl (q0, IntKind.wrap IntKind.i64 (q1 - (1 : Int)), q2)))) (.br (decide ((0 : Int) ≤ IntKind.wrap IntKind.i64 (q1 + (1 : Int))) && decide (IntKind.wrap IntKind.i64 (q1 + (1 : Int)) < (↑(List.length q2) : Int))) (.br (decide (Int.toNat (IntKind.wrap IntKind.i64 (q1 + (1 : Int))) < List.length q2)) (.br (szG (el_lilii q2 (IntKind.wrap IntKind.i64 (q1 + (1 : Int)))) && szG (ovR (el_lilii q5 (IntKind.wrap IntKind.i64 (q1 + (1 : Int)))) (el_lilii q5 q1) q4)) (.br (szG (opR (2 : Int) (el_lilii q2 (IntKind.wrap IntKind.i64 (q1 + (1 : Int)))) (ovR (el_lilii q5 (IntKind.wrap IntKind.i64 (q1 + (1 : Int)))) (el_lilii q5 q1) q4)) && szG (dlG (el_lilii q5 q1) q3)) (.br (decide ((0 : Int) ≤ q1) && decide (q1 < (↑(List.length q2) : Int))) (.br (decide (Int.toNat q1 < List.length q2)) (.ret (.inl (q0, IntKind.wrap IntKind.i64 (q1 - (1 : Int)), List.set q2 (Int.toNat q1) (opR (0 : Int) (opR (2 : Int) (el_lilii q2 (IntKind.wrap IntKind.i64 (q1 + (1 : Int)))) (ovR (el_lilii q5 (IntKind.wrap IntKind.i64 (q1 + (1 : Int)))) (el_lilii q5 q1) q4)) (dlG (el_lilii q5 q1) q3))))) (.bad 19)) (.bad 31)) (.bad 900)) (.bad 900)) (.bad 12)) (.bad 31))) (.bad 900)) (.bad 29))) (.bad 900)) (.bad 29)) (.bad 29)) (.ret (.inr (1, (q0, q1, q2))))
set_option maxRecDepth 100000 in
set_option maxHeartbeats 4000000 in
theorem sup_step_eq : ∀ (u : sup_U) (v : sup_V), (evalC Try.prog (evalB Try.prog suA_S52 (opens []) suA_L54 7).1 (evalB Try.prog suA_S52 (opens []) suA_L54 7).2 (opens []) (suA_L54 8) 100000 (0 :: [0, 1, 0, 1, 1, 1, 1, 1]) (loopOf (bodyOf Try.prog 8) [1, 1, 1, 1, 1, 0, 1, 0]) (sup_St u v) []).bind (finF [0, 1, 2, 3, 4, 5, 11, 12, 13, 14, 15, 16, 17, 18, 19, 20, 21, 22, 23, 24, 25, 26, 27, 28, 29, 30, 31, 32, 33, 34, 35, 36, 37, 38, 39, 40, 41, 42, 43, 44] [] [23, 22, 2, 1, 0] [] 1031) = (sup_step u v).bind (outA (sup_St u) [.ret, .exit 0]) := by
  rintro ⟨q3, q4, q5⟩ ⟨q0, q1, q2⟩
  kernel_rfl
noncomputable def sup_rd (b : Bool) (o6 : Option AV) (o7 : Option AV) (o8 : Option AV) (o9 : Option AV) (o10 : Option AV) (own : Own) : Option (sup_U × sup_V) := zrT b <| zrO o6 fun za1 => zrA1 za1 fun zc2 => zrNil zc2 <| zrO o7 fun za3 => zrA1 za3 fun zc4 => zrI .i64 zc4 fun q0 => zrO o8 fun za5 => zrA1 za5 fun zc6 => zrP 23 0 zc6 <| zrO o9 fun za7 => zrA1 za7 fun zc8 => zrF 22 [((0 : Nat), (0 : Nat)), ((1 : Nat), (0 : Nat)), ((2 : Nat), (0 : Nat)), ((23 : Nat), (0 : Nat))] zc8 <| zrO o10 fun za9 => zrA1 za9 fun zc10 => zrI .i64 zc10 fun q1 => zrL own fun zq11 zw12 => zrKey 23 zq11 fun zk13 => zrC zk13 fun zl14 => zrL zl14 fun zc15 zr16 => zrSl 22 0 (none) zc15 <| zrN zr16 <| zrL zw12 fun zq17 zw18 => zrKey 22 zq17 fun zk19 => zrR true 30 (.list (.prod (.int .i64) (.list (.prod (.int .i64) (.int .i64))))) zk19 fun q2 => zrL zw18 fun zq20 zw21 => zrKey 2 zq20 fun zk22 => zrC zk22 fun zl23 => zrL zl23 fun zc24 zr25 => zrI .i64 zc24 fun q3 => zrN zr25 <| zrL zw21 fun zq26 zw27 => zrKey 1 zq26 fun zk28 => zrC zk28 fun zl29 => zrL zl29 fun zc30 zr31 => zrI .i64 zc30 fun q4 => zrN zr31 <| zrL zw27 fun zq32 zw33 => zrKey 0 zq32 fun zk34 => zrC zk34 fun zl35 => zrL zl35 fun zc36 zr37 => zrD (.list (.prod (.int .i64) (.list (.prod (.int .i64) (.int .i64))))) zc36 fun q5 => zrN zr37 <| zrN zw33 <| some ((q3, q4, q5), (q0, q1, q2))
noncomputable def sup_can (st : Stt) : Stt := canA [0, 1, 2, 3, 4, 5, 11, 12, 13, 14, 15, 16, 17, 18, 19, 20, 21, 22, 23, 24, 25, 26, 27, 28, 29, 30, 31, 32, 33, 34, 35, 36, 37, 38, 39, 40, 41, 42, 43, 44] [] [23, 22, 2, 1, 0] [] 1031 st
noncomputable def sup_cok (st : Stt) : Bool := canAok [0, 1, 2, 3, 4, 5, 11, 12, 13, 14, 15, 16, 17, 18, 19, 20, 21, 22, 23, 24, 25, 26, 27, 28, 29, 30, 31, 32, 33, 34, 35, 36, 37, 38, 39, 40, 41, 42, 43, 44] [] [23, 22, 2, 1, 0] [] 1031 st
noncomputable def sup_read (st : Stt) : Option (sup_U × sup_V) := sup_rd (sup_cok st && (staysA [] [23, 22, 2, 1, 0] st.own && juAll [0, 1, 2, 3, 4, 5, 11, 12, 13, 14, 15, 16, 17, 18, 19, 20, 21, 22, 23, 24, 25, 26, 27, 28, 29, 30, 31, 32, 33, 34, 35, 36, 37, 38, 39, 40, 41, 42, 43, 44] (sup_can st).tm 45)) (sup_can st).tm[6]? (sup_can st).tm[7]? (sup_can st).tm[8]? (sup_can st).tm[9]? (sup_can st).tm[10]? (sup_can st).own
set_option maxRecDepth 100000 in
set_option maxHeartbeats 4000000 in
theorem sup_rd_ok {b : Bool} {tm : List AV} {own : Own} {u : sup_U} {v : sup_V} (hj : b = true → juAll [0, 1, 2, 3, 4, 5, 11, 12, 13, 14, 15, 16, 17, 18, 19, 20, 21, 22, 23, 24, 25, 26, 27, 28, 29, 30, 31, 32, 33, 34, 35, 36, 37, 38, 39, 40, 41, 42, 43, 44] tm 45 = true) (h : sup_rd b tm[6]? tm[7]? tm[8]? tm[9]? tm[10]? own = some (u, v)) : b = true ∧ tm = (sup_St u v).tm ∧ own = (sup_St u v).own := by
  unfold sup_rd at h
  obtain ⟨rfl, h0⟩ := zrT_some h
  obtain ⟨za1, e6, h1⟩ := zrO_some h0
  obtain ⟨zc2, rfl, h2⟩ := zrA1_some h1
  obtain ⟨rfl, h3⟩ := zrNil_some h2
  obtain ⟨za3, e7, h4⟩ := zrO_some h3
  obtain ⟨zc4, rfl, h5⟩ := zrA1_some h4
  obtain ⟨q0, rfl, h6⟩ := zrI_some h5
  obtain ⟨za5, e8, h7⟩ := zrO_some h6
  obtain ⟨zc6, rfl, h8⟩ := zrA1_some h7
  obtain ⟨rfl, h9⟩ := zrP_some h8
  obtain ⟨za7, e9, h10⟩ := zrO_some h9
  obtain ⟨zc8, rfl, h11⟩ := zrA1_some h10
  obtain ⟨rfl, h12⟩ := zrF_some h11
  obtain ⟨za9, e10, h13⟩ := zrO_some h12
  obtain ⟨zc10, rfl, h14⟩ := zrA1_some h13
  obtain ⟨q1, rfl, h15⟩ := zrI_some h14
  obtain ⟨zq11, zw12, rfl, h16⟩ := zrL_some h15
  obtain ⟨zk13, rfl, h17⟩ := zrKey_some h16
  obtain ⟨zl14, rfl, h18⟩ := zrC_some h17
  obtain ⟨zc15, zr16, rfl, h19⟩ := zrL_some h18
  obtain ⟨rfl, h20⟩ := zrSl_some h19
  obtain ⟨rfl, h21⟩ := zrN_some h20
  obtain ⟨zq17, zw18, rfl, h22⟩ := zrL_some h21
  obtain ⟨zk19, rfl, h23⟩ := zrKey_some h22
  obtain ⟨q2, rfl, h24⟩ := zrR_some h23
  obtain ⟨zq20, zw21, rfl, h25⟩ := zrL_some h24
  obtain ⟨zk22, rfl, h26⟩ := zrKey_some h25
  obtain ⟨zl23, rfl, h27⟩ := zrC_some h26
  obtain ⟨zc24, zr25, rfl, h28⟩ := zrL_some h27
  obtain ⟨q3, rfl, h29⟩ := zrI_some h28
  obtain ⟨rfl, h30⟩ := zrN_some h29
  obtain ⟨zq26, zw27, rfl, h31⟩ := zrL_some h30
  obtain ⟨zk28, rfl, h32⟩ := zrKey_some h31
  obtain ⟨zl29, rfl, h33⟩ := zrC_some h32
  obtain ⟨zc30, zr31, rfl, h34⟩ := zrL_some h33
  obtain ⟨q4, rfl, h35⟩ := zrI_some h34
  obtain ⟨rfl, h36⟩ := zrN_some h35
  obtain ⟨zq32, zw33, rfl, h37⟩ := zrL_some h36
  obtain ⟨zk34, rfl, h38⟩ := zrKey_some h37
  obtain ⟨zl35, rfl, h39⟩ := zrC_some h38
  obtain ⟨zc36, zr37, rfl, h40⟩ := zrL_some h39
  obtain ⟨q5, rfl, h41⟩ := zrD_some h40
  obtain ⟨rfl, h42⟩ := zrN_some h41
  obtain ⟨rfl, h43⟩ := zrN_some h42
  have h := Option.some.inj h43
  have hu := congrArg Prod.fst h
  have hv := congrArg Prod.snd h
  dsimp only at hu hv
  subst hu
  subst hv
  exact ⟨rfl, (tm_fill (hj rfl) (Lv := [(6, .one (.v false (Value.slice none (0 : Nat) (0 : Nat)))), (7, .one (.v false (.int .i64 q0))), (8, .one (.p 23 0)), (9, .one (.fn 22 [((0 : Nat), (0 : Nat)), ((1 : Nat), (0 : Nat)), ((2 : Nat), (0 : Nat)), ((23 : Nat), (0 : Nat))])), (10, .one (.v false (.int .i64 q1)))]) (by kernel_rfl) ⟨e6, e7, e8, e9, e10, trivial⟩).trans (by kernel_rfl), rfl⟩
theorem sup_read_ok (st : Stt) (u : sup_U) (v : sup_V) (h : sup_read st = some (u, v)) : sup_cok st = true ∧ staysA [] [23, 22, 2, 1, 0] st.own = true ∧ sup_can st = sup_St u v := by
  obtain ⟨h1, h2, h3⟩ := sup_rd_ok (fun hb => by rw [Bool.and_eq_true, Bool.and_eq_true] at hb; exact hb.2.2) h
  rw [Bool.and_eq_true, Bool.and_eq_true] at h1
  refine ⟨h1.1, h1.2.1, ?_⟩
  have e : sup_can st = ⟨(sup_can st).tm, (sup_can st).own, 1031⟩ := by kernel_rfl
  rw [e, h2, h3]
  rfl
noncomputable def sup_cond (u : sup_U) (v : sup_V) : Bool := runC (sup_step u) v
noncomputable def sup_g (u : sup_U) (v : sup_V) : Nat × sup_V := runG (sup_step u) v
theorem sup_hg : ∀ (u : sup_U) (v : sup_V), sup_cond u v = true → loopN (sup_step u) ((fun u v => runF (sup_step u) v) u v) v = some (sup_g u v) := by
  exact fun u v h => run_hg h
noncomputable def sup_m (st : Stt) : Option (Tr (Ex × Stt)) := sumM sup_read sup_cond sup_St sup_g [(0, .ret), (1, .exit 0)] st
noncomputable def suA_L55 : FuncId → Loops := addL 8 [0, 1, 0, 1, 1, 1, 1, 1] sup_m suA_L54
set_option maxRecDepth 100000 in
set_option maxHeartbeats 4000000 in
theorem suA_L55_ok : LoopsOK Try.prog suA_L55 :=
  loop_sumF (body := (bodyOf Try.prog 8)) (c := (loopOf (bodyOf Try.prog 8) [1, 1, 1, 1, 1, 0, 1, 0])) (kinds := [.ret, .exit 0]) (allow := [(0, .ret), (1, .exit 0)]) (St := sup_St) (step := sup_step) (W := [0, 1, 2, 3, 4, 5, 11, 12, 13, 14, 15, 16, 17, 18, 19, 20, 21, 22, 23, 24, 25, 26, 27, 28, 29, 30, 31, 32, 33, 34, 35, 36, 37, 38, 39, 40, 41, 42, 43, 44]) (As := []) (ks := [23, 22, 2, 1, 0]) (dd := []) (nx := 1031) (n := 100000) (g := sup_g) (cond := sup_cond) (fuel := (fun u v => runF (sup_step u) v)) (read := sup_read) (by kernel_rfl) (suA_S52_ok) (suA_L54_ok) 7 ⟨Try.f8, by kernel_rfl, by kernel_rfl⟩ (by kernel_rfl) (by kernel_rfl) (by kernel_rfl) sup_step_eq sup_hg sup_read_ok
theorem el_L (L : List Rg) (i : Nat) : el_lilii L (i : Int) = L.getD i [] := elm_nat (.list (.prod (.int .i64) (.list (.prod (.int .i64) (.int .i64))))) L i
theorem sm2_run {L : List Rg} (hn : L.length ≤ 12) : sm2_cond L (false, 0) = true ∧ ((L.all smG = true ∧ sm2_g L (false, 0) = (1, (false, (L.length : Int)))) ∨ (L.all smG = false ∧ ∃ j : Nat, sm2_g L (false, 0) = (0, (false, (j : Int))))) := by
  obtain ⟨h1, h2⟩ := run_all (step := sm2_step L) (St := fun i => (false, (i : Int))) (Lv := fun i => (0, (false, (i : Int)))) (t := (1, (false, (L.length : Int)))) (l := L) (p := smG) (fun i hi => by
    have e : L.getD i [] = L[i] := by rw [List.getD_eq_getElem?_getD, List.getElem?_eq_getElem hi]; rfl
    simp only [sm2_step, Tr.val, lt_t hi, nn_t, el_L, e, wi1 hi (show (L.length : Int) ≤ 9223372036854775806 by omega), Bool.and_self, cond_true]
    cases smG L[i] <;> rfl) (by simp only [sm2_step, Tr.val, Int.lt_irrefl, decide_false, cond_false])
  refine ⟨h1, ?_⟩
  rcases h2 with ⟨h, h3⟩ | ⟨h, j, _, _, _, h4⟩
  · exact .inl ⟨h, h3⟩
  · exact .inr ⟨h, j, h4⟩
theorem ixf_run {L : List Rg} (hn : L.length ≤ 12) (hs : L.all szG = true) : ixf_cond (L, (L.length : Int)) (0, 0) = true ∧ ((L.all valGB = true ∧ ixf_g (L, (L.length : Int)) (0, 0) = (1, (0, (L.length : Int)))) ∨ (L.all valGB = false ∧ ∃ j : Nat, ixf_g (L, (L.length : Int)) (0, 0) = (0, ((j : Int), (j : Int))))) := by
  obtain ⟨h1, h2⟩ := run_all (step := ixf_step (L, (L.length : Int))) (St := fun i => (0, (i : Int))) (Lv := fun i => (0, ((i : Int), (i : Int)))) (t := (1, (0, (L.length : Int)))) (l := L) (p := valGB) (fun i hi => by
    have e : L.getD i [] = L[i] := by rw [List.getD_eq_getElem?_getD, List.getElem?_eq_getElem hi]; rfl
    have z : szG L[i] = true := List.all_eq_true.1 hs _ (List.getElem_mem hi)
    simp only [ixf_step, Tr.val, lt_t hi, nn_t, el_L, e, z, wi1 hi (show (L.length : Int) ≤ 9223372036854775806 by omega), Bool.and_self, cond_true]
    cases valGB L[i] <;> rfl) (by simp only [ixf_step, Tr.val, Int.lt_irrefl, decide_false, cond_false])
  refine ⟨h1, ?_⟩
  rcases h2 with ⟨h, h3⟩ | ⟨h, j, _, _, _, h4⟩
  · exact .inl ⟨h, h3⟩
  · exact .inr ⟨h, j, h4⟩
def chkAll (L : List Rg) (k g : Int) : Prop := ∀ i, i + 1 < L.length → chkE (L.getD i []) k = 0 ∧ chkE (L.getD i []) g = 0
theorem sup_run {L : List Rg} {k g : Int} (hv : ∀ i, valG (L.getD i [])) (hn : L.length ≤ 12) : sup_cond (g, k, L) (0, (L.length : Int) - 2, List.replicate L.length []) = true ∧ ((chkAll L k g ∧ (sup_g (g, k, L) (0, (L.length : Int) - 2, List.replicate L.length [])).1 = 1 ∧ (sup_g (g, k, L) (0, (L.length : Int) - 2, List.replicate L.length [])).2.2.2 = tab L.length fun p => supT L k g (L.length - 1 - p)) ∨ (¬ chkAll L k g ∧ (sup_g (g, k, L) (0, (L.length : Int) - 2, List.replicate L.length [])).1 = 0 ∧ (sup_g (g, k, L) (0, (L.length : Int) - 2, List.replicate L.length [])).2.1 ≠ 0)) := by
  have sz : ∀ i, szG (L.getD i []) = true := fun i => val_sz (hv i)
  obtain ⟨h1, h2⟩ := run_scan (step := sup_step (g, k, L)) (St := fun j => (0, (L.length : Int) - 2 - (j : Int), tab L.length fun p => if L.length - 1 - j ≤ p then supT L k g (L.length - 1 - p) else [])) (Lv := fun j => (0, ((bif chkE (L.getD (L.length - 2 - j) []) k == (0 : Int) then chkE (L.getD (L.length - 2 - j) []) g else chkE (L.getD (L.length - 2 - j) []) k), (L.length : Int) - 2 - (j : Int), tab L.length fun p => if L.length - 1 - j ≤ p then supT L k g (L.length - 1 - p) else []))) (t := (1, (0, (L.length : Int) - 2 - ((L.length - 1 : Nat) : Int), tab L.length fun p => if L.length - 1 - (L.length - 1) ≤ p then supT L k g (L.length - 1 - p) else []))) (n := L.length - 1) (p := fun j => chkE (L.getD (L.length - 2 - j) []) k == (0 : Int) && chkE (L.getD (L.length - 2 - j) []) g == (0 : Int)) (fun j hj => by
    obtain ⟨i, hi⟩ : ∃ i, i = L.length - 2 - j := ⟨_, rfl⟩
    have e1 : L.length - 1 - j = i + 1 := by omega
    have e2 : L.length - 1 - (j + 1) = i := by omega
    have ei : (L.length : Int) - 2 - (j : Int) = (i : Int) := by omega
    have eV : opR 0 (opR 2 (supT L k g j) (ovG (L.getD (i + 1) []) (L.getD i []) k)) (dlG (L.getD i []) g) = supT L k g (j + 1) := by
      show _ = opR 0 (opR 2 (supT L k g j) (ovG (L.getD (L.length - 1 - j) []) (L.getD (L.length - 2 - j) []) k)) (dlG (L.getD (L.length - 2 - j) []) g)
      rw [e1, ← hi]
    show (sup_step (g, k, L) (0, (L.length : Int) - 2 - (j : Int), tab L.length fun p => if L.length - 1 - j ≤ p then supT L k g (L.length - 1 - p) else [])).val = some (bif chkE (L.getD (L.length - 2 - j) []) k == (0 : Int) && chkE (L.getD (L.length - 2 - j) []) g == (0 : Int) then .inl (0, (L.length : Int) - 2 - ((j + 1 : Nat) : Int), tab L.length fun p => if L.length - 1 - (j + 1) ≤ p then supT L k g (L.length - 1 - p) else []) else .inr (0, ((bif chkE (L.getD (L.length - 2 - j) []) k == (0 : Int) then chkE (L.getD (L.length - 2 - j) []) g else chkE (L.getD (L.length - 2 - j) []) k), (L.length : Int) - 2 - (j : Int), tab L.length fun p => if L.length - 1 - j ≤ p then supT L k g (L.length - 1 - p) else [])))
    rw [ei, ← hi, e1, e2]
    have c0 : decide ((i : Int) ≥ 0) = true := decide_eq_true (by omega)
    have w1 : IntKind.wrap IntKind.i64 ((i : Int) + (1 : Int)) = ((i + 1 : Nat) : Int) := by rw [wid (by omega) (by omega)]; omega
    have wm : IntKind.wrap IntKind.i64 ((i : Int) - (1 : Int)) = (L.length : Int) - 2 - ((j + 1 : Nat) : Int) := by rw [wid (by omega) (by omega)]; omega
    have q1 : i + 1 < L.length := by omega
    have q0 : i < L.length := by omega
    have gt : (tab L.length fun p => if i + 1 ≤ p then supT L k g (L.length - 1 - p) else []).getD (i + 1) [] = supT L k g j := by rw [tab_getD _ q1, if_pos (Nat.le_refl _), show L.length - 1 - (i + 1) = j by omega]
    have es : (tab L.length fun p => if p = i then supT L k g (j + 1) else if i + 1 ≤ p then supT L k g (L.length - 1 - p) else []) = tab L.length fun p => if i ≤ p then supT L k g (L.length - 1 - p) else [] := tab_congr fun p hp => by
      by_cases a : p = i
      · rw [if_pos a, if_pos (by omega), show L.length - 1 - p = j + 1 by omega]
      · rw [if_neg a]
        by_cases b : i + 1 ≤ p
        · rw [if_pos b, if_pos (by omega)]
        · rw [if_neg b, if_neg (by omega)]
    have z1 : szG (supT L k g j) = true := val_sz (sup_val L k g j)
    have z2 : szG (ovR (L.getD (i + 1) []) (L.getD i []) k) = true := val_sz (ovR_val _ _ _)
    have z3 : ∀ A B an, szG (opR an A B) = true := fun A B an => val_sz (opR_val an A B)
    have z4 : szG (dlG (L.getD i []) g) = true := val_sz (dl_val _ _)
    obtain ⟨o1, o2⟩ := ov_ok (R := L.getD (i + 1) []) (B := L.getD i []) (k := k) (hv (i + 1))
    cases hk : chkE (L.getD i []) k == (0 : Int)
    · have hb : (chkE (L.getD i []) k != (0 : Int)) = true := by rw [bne, hk]; rfl
      simp only [sup_step, Tr.val, c0, w1, nn_t, lt_t q1, lt_t q0, el_L, sz, o1, hb, Bool.and_self, Bool.false_and, cond_true, cond_false]
    · have hb : (chkE (L.getD i []) k != (0 : Int)) = false := by rw [bne, hk]; rfl
      have e3 := o2 (beq_iff_eq.1 hk)
      cases hg : chkE (L.getD i []) g == (0 : Int)
      · have hb2 : (chkE (L.getD i []) g != (0 : Int)) = true := by rw [bne, hg]; rfl
        simp only [sup_step, Tr.val, c0, w1, nn_t, lt_t q1, lt_t q0, el_L, sz, o1, hb, hb2, Bool.and_self, Bool.and_false, cond_true, cond_false]
      · have hb2 : (chkE (L.getD i []) g != (0 : Int)) = false := by rw [bne, hg]; rfl
        rw [e3] at z2
        simp only [sup_step, Tr.val, c0, w1, wm, nn_t, lt_t q1, lt_t q0, el_L, sz, o1, hb, hb2, e3, tab_length, gt, z1, z2, z3, z4, decide_eq_true q1, decide_eq_true q0, Int.toNat_natCast, tab_set, eV, es, Bool.and_self, cond_true, cond_false]) (by
    have d : decide ((L.length : Int) - 2 - ((L.length - 1 : Nat) : Int) ≥ 0) = false := decide_eq_false (by omega)
    simp only [sup_step, Tr.val, d, cond_false])
  have e0 : (tab L.length fun p => if L.length - 1 - 0 ≤ p then supT L k g (L.length - 1 - p) else []) = List.replicate L.length [] := by
    rw [tab_rep]
    exact tab_congr fun p hp => by
      by_cases a : L.length - 1 - 0 ≤ p
      · rw [if_pos a, show L.length - 1 - p = 0 by omega]; rfl
      · rw [if_neg a]
  have e9 : (L.length : Int) - 2 - ((0 : Nat) : Int) = (L.length : Int) - 2 := by omega
  rw [e0, e9] at h1 h2
  refine ⟨h1, ?_⟩
  rcases h2 with ⟨h, h3⟩ | ⟨j, hj, hp, _, h4⟩
  · have h3 : sup_g (g, k, L) (0, (L.length : Int) - 2, List.replicate L.length []) = _ := h3
    refine .inl ⟨fun i hi => ?_, by rw [h3], ?_⟩
    · have := h (L.length - 2 - i) (by omega)
      rw [show L.length - 2 - (L.length - 2 - i) = i by omega, Bool.and_eq_true, beq_iff_eq, beq_iff_eq] at this
      exact this
    · rw [h3]
      exact tab_congr fun p hp => by rw [if_pos (by omega)]
  · have h4 : sup_g (g, k, L) (0, (L.length : Int) - 2, List.replicate L.length []) = _ := h4
    refine .inr ⟨fun a => ?_, by rw [h4], ?_⟩
    · obtain ⟨a1, a2⟩ := a (L.length - 2 - j) (by omega)
      rw [a1, a2] at hp; cases hp
    · rw [h4]
      show (bif chkE (L.getD (L.length - 2 - j) []) k == (0 : Int) then chkE (L.getD (L.length - 2 - j) []) g else chkE (L.getD (L.length - 2 - j) []) k) ≠ 0
      cases hk : chkE (L.getD (L.length - 2 - j) []) k == (0 : Int)
      · intro e
        rw [cond_false] at e
        rw [e] at hk; cases hk
      · rw [hk, Bool.true_and] at hp
        intro e
        rw [cond_true] at e
        rw [e] at hp; cases hp
noncomputable def smB (L : List Rg) : Bool := decide (L.length ≤ 12) && L.all smG
noncomputable def supOK (L : List Rg) (k g : Int) : Bool := @decide ((0 ≤ k ∧ k ≤ 64) ∧ (0 ≤ g ∧ g ≤ 64) ∧ L.all valGB = true ∧ ∀ i, i + 1 < L.length → chkE (L.getD i []) k = 0 ∧ chkE (L.getD i []) g = 0) (Classical.propDecidable _)
noncomputable def supL (L : List Rg) (k g : Int) : List Rg := bif supOK L k g then tab L.length (fun p => supT L k g (L.length - 1 - p)) else []
theorem supOK_iff {L : List Rg} {k g : Int} : supOK L k g = true ↔ (0 ≤ k ∧ k ≤ 64) ∧ (0 ≤ g ∧ g ≤ 64) ∧ L.all valGB = true ∧ chkAll L k g := by unfold supOK chkAll; simp
theorem supOK_f {L : List Rg} {k g : Int} (h : ¬ ((0 ≤ k ∧ k ≤ 64) ∧ (0 ≤ g ∧ g ≤ 64) ∧ L.all valGB = true ∧ chkAll L k g)) : supOK L k g = false := by rw [← Bool.not_eq_true, supOK_iff]; exact h
set_option maxRecDepth 100000 in
theorem sm2c_tree (L : (Ty.list (.list (.prod (.int .i64) (.list (.prod (.int .i64) (.int .i64)))))).den) : evalF Try.prog suA_S52 (opens []) suA_L55 9 6 [.one (.d false false (.list (.prod (.int .i64) (.list (.prod (.int .i64) (.int .i64))))) L)] = .br ((bif decide ((↑(List.length L) : Int) > (12 : Int)) then true else ((sm2_cond L (false, (0 : Int))) && (bif Nat.beq (Prod.fst (sm2_g L (false, (0 : Int)))) (0 : Nat) then true else (Nat.beq (Prod.fst (sm2_g L (false, (0 : Int)))) (1 : Nat)))))) (.ret (.one (.v false (.bool (bif decide ((↑(List.length L) : Int) > (12 : Int)) then false else bif Nat.beq (Prod.fst (sm2_g L (false, (0 : Int)))) (0 : Nat) then Prod.fst (Prod.snd (sm2_g L (false, (0 : Int)))) else true))))) (.bad 116) := by kernel_rfl
set_option maxHeartbeats 4000000 in
theorem sm2c_val (L : (Ty.list (.list (.prod (.int .i64) (.list (.prod (.int .i64) (.int .i64)))))).den) : (.br ((bif decide ((↑(List.length L) : Int) > (12 : Int)) then true else ((sm2_cond L (false, (0 : Int))) && (bif Nat.beq (Prod.fst (sm2_g L (false, (0 : Int)))) (0 : Nat) then true else (Nat.beq (Prod.fst (sm2_g L (false, (0 : Int)))) (1 : Nat)))))) (.ret (.one (.v false (.bool (bif decide ((↑(List.length L) : Int) > (12 : Int)) then false else bif Nat.beq (Prod.fst (sm2_g L (false, (0 : Int)))) (0 : Nat) then Prod.fst (Prod.snd (sm2_g L (false, (0 : Int)))) else true))))) (.bad 116) : Tr AV).val = some (.one (.v false (.bool (smB L)))) := by
  obtain ⟨K, rfl⟩ : ∃ K : List Rg, K = L := ⟨L, rfl⟩
  unfold smB
  show cond _ _ _ = _
  by_cases hl : K.length ≤ 12
  · obtain ⟨v1, v2⟩ := sm2_run hl
    have b : decide ((K.length : Int) > (12 : Int)) = false := decide_eq_false (by omega)
    rcases v2 with ⟨h, g⟩ | ⟨h, j, g⟩
    · simp only [b, v1, g, h, decide_eq_true hl, Nat.beq, Bool.and_self, cond_true, cond_false, Tr.val]
    · simp only [b, v1, g, h, decide_eq_true hl, Nat.beq, Bool.and_self, Bool.and_false, cond_true, cond_false, Tr.val]
  · have b : decide ((K.length : Int) > (12 : Int)) = true := decide_eq_true (by omega)
    simp only [b, decide_eq_false hl, Bool.false_and, cond_true, Tr.val]
noncomputable def sm2c_g : List AV → Option (Tr AV)
  | [.one (.d _ _ (.list (.prod (.int .i64) (.list (.prod (.int .i64) (.int .i64))))) L)] => some (.ret (.one (.v false (.bool (smB L)))))
  | _ => none
set_option maxHeartbeats 4000000 in
theorem sm2c_ok : FunOK Try.prog 6 sm2c_g := by
  refine fun_ok (by kernel_rfl) (suA_S52_ok) (suA_L55_ok) 9 (On := (opens [])) (fun args t h => ?_)
  unfold sm2c_g at h
  split at h
  · rename_i _ _ L
    simp only [Option.some.injEq] at h
    subst h
    refine ⟨[.one (.d false false (.list (.prod (.int .i64) (.list (.prod (.int .i64) (.int .i64))))) L)], rfl, fun fr w us h => h, fun r hr => ?_⟩
    simp only [Tr.val, Option.some.injEq] at hr
    subst hr
    rw [sm2c_tree]
    exact sm2c_val L
  · cases h
noncomputable def suA_S56 : Sums := addS 6 sm2c_g suA_S52
theorem suA_S56_ok : SumOK Try.prog suA_S56 := addS_ok (sm2c_ok) (suA_S52_ok)
noncomputable def supE (L : List Rg) (k g : Int) : Int := (bif decide ((↑(List.length L) : Int) > (256 : Int)) then (2 : Int) else bif bif !bif decide (k ≥ (0 : Int)) then decide (k ≤ (64 : Int)) else false then true else !bif decide (g ≥ (0 : Int)) then decide (g ≤ (64 : Int)) else false then (1 : Int) else bif decide ((bif Nat.beq (Prod.fst (ixf_g (L, (↑(List.length L) : Int)) ((0 : Int), (0 : Int)))) (0 : Nat) then Prod.fst (Prod.snd (ixf_g (L, (↑(List.length L) : Int)) ((0 : Int), (0 : Int)))) else (-1 : Int)) ≥ (0 : Int)) then (1 : Int) else bif Nat.beq (Prod.fst (sup_g (g, k, L) ((0 : Int), IntKind.wrap IntKind.i64 ((↑(List.length L) : Int) - (2 : Int)), List.replicate (Int.toNat (↑(List.length L) : Int)) []))) (0 : Nat) then Prod.fst (Prod.snd (sup_g (g, k, L) ((0 : Int), IntKind.wrap IntKind.i64 ((↑(List.length L) : Int) - (2 : Int)), List.replicate (Int.toNat (↑(List.length L) : Int)) []))) else (0 : Int))
set_option maxRecDepth 100000 in
theorem supc_tree (L : (Ty.list (.list (.prod (.int .i64) (.list (.prod (.int .i64) (.int .i64)))))).den) (k : Int) (g : Int) : evalF Try.prog suA_S56 (opens []) suA_L55 9 8 [.one (.d false false (.list (.prod (.int .i64) (.list (.prod (.int .i64) (.int .i64))))) L), .one (.v false (.int .i64 k)), .one (.v false (.int .i64 g))] = .br ((bif decide ((↑(List.length L) : Int) > (256 : Int)) then true else (bif bif !bif decide (k ≥ (0 : Int)) then decide (k ≤ (64 : Int)) else false then true else !bif decide (g ≥ (0 : Int)) then decide (g ≤ (64 : Int)) else false then true else (((((ixf_cond (L, (↑(List.length L) : Int)) ((0 : Int), (0 : Int))) && (bif Nat.beq (Prod.fst (ixf_g (L, (↑(List.length L) : Int)) ((0 : Int), (0 : Int)))) (0 : Nat) then true else (Nat.beq (Prod.fst (ixf_g (L, (↑(List.length L) : Int)) ((0 : Int), (0 : Int)))) (1 : Nat)))))) && (bif decide ((bif Nat.beq (Prod.fst (ixf_g (L, (↑(List.length L) : Int)) ((0 : Int), (0 : Int)))) (0 : Nat) then Prod.fst (Prod.snd (ixf_g (L, (↑(List.length L) : Int)) ((0 : Int), (0 : Int)))) else (-1 : Int)) ≥ (0 : Int)) then true else ((decide ((0 : Int) ≤ (↑(List.length L) : Int)) && decide ((↑(List.length L) : Int) ≤ (↑(List.length L) : Int)) && decide ((↑(24 : Nat) : Int) * (↑(List.length L) : Int) ≤ (281474976710656 : Int)) && decide ((↑(List.length L) : Int) ≤ (9223372036854775807 : Int))) && ((sup_cond (g, k, L) ((0 : Int), IntKind.wrap IntKind.i64 ((↑(List.length L) : Int) - (2 : Int)), List.replicate (Int.toNat (↑(List.length L) : Int)) [])) && (bif Nat.beq (Prod.fst (sup_g (g, k, L) ((0 : Int), IntKind.wrap IntKind.i64 ((↑(List.length L) : Int) - (2 : Int)), List.replicate (Int.toNat (↑(List.length L) : Int)) []))) (0 : Nat) then true else (Nat.beq (Prod.fst (sup_g (g, k, L) ((0 : Int), IntKind.wrap IntKind.i64 ((↑(List.length L) : Int) - (2 : Int)), List.replicate (Int.toNat (↑(List.length L) : Int)) []))) (1 : Nat)))))))))) (.ret (.tup [(false, [.d false false (.list (.prod (.int .i64) (.list (.prod (.int .i64) (.int .i64))))) (bif decide ((↑(List.length L) : Int) > (256 : Int)) then [] else bif bif !bif decide (k ≥ (0 : Int)) then decide (k ≤ (64 : Int)) else false then true else !bif decide (g ≥ (0 : Int)) then decide (g ≤ (64 : Int)) else false then [] else bif decide ((bif Nat.beq (Prod.fst (ixf_g (L, (↑(List.length L) : Int)) ((0 : Int), (0 : Int)))) (0 : Nat) then Prod.fst (Prod.snd (ixf_g (L, (↑(List.length L) : Int)) ((0 : Int), (0 : Int)))) else (-1 : Int)) ≥ (0 : Int)) then [] else bif Nat.beq (Prod.fst (sup_g (g, k, L) ((0 : Int), IntKind.wrap IntKind.i64 ((↑(List.length L) : Int) - (2 : Int)), List.replicate (Int.toNat (↑(List.length L) : Int)) []))) (0 : Nat) then [] else Prod.snd (Prod.snd (Prod.snd (sup_g (g, k, L) ((0 : Int), IntKind.wrap IntKind.i64 ((↑(List.length L) : Int) - (2 : Int)), List.replicate (Int.toNat (↑(List.length L) : Int)) [])))))]), (false, [.v false (.int .i64 (bif decide ((↑(List.length L) : Int) > (256 : Int)) then (2 : Int) else bif bif !bif decide (k ≥ (0 : Int)) then decide (k ≤ (64 : Int)) else false then true else !bif decide (g ≥ (0 : Int)) then decide (g ≤ (64 : Int)) else false then (1 : Int) else bif decide ((bif Nat.beq (Prod.fst (ixf_g (L, (↑(List.length L) : Int)) ((0 : Int), (0 : Int)))) (0 : Nat) then Prod.fst (Prod.snd (ixf_g (L, (↑(List.length L) : Int)) ((0 : Int), (0 : Int)))) else (-1 : Int)) ≥ (0 : Int)) then (1 : Int) else bif Nat.beq (Prod.fst (sup_g (g, k, L) ((0 : Int), IntKind.wrap IntKind.i64 ((↑(List.length L) : Int) - (2 : Int)), List.replicate (Int.toNat (↑(List.length L) : Int)) []))) (0 : Nat) then Prod.fst (Prod.snd (sup_g (g, k, L) ((0 : Int), IntKind.wrap IntKind.i64 ((↑(List.length L) : Int) - (2 : Int)), List.replicate (Int.toNat (↑(List.length L) : Int)) []))) else (0 : Int)))])])) (.bad 116) := by kernel_rfl
theorem supc_val (L : (Ty.list (.list (.prod (.int .i64) (.list (.prod (.int .i64) (.int .i64)))))).den) (k : Int) (g : Int) (hc : (smL L) = true) : (.br ((bif decide ((↑(List.length L) : Int) > (256 : Int)) then true else (bif bif !bif decide (k ≥ (0 : Int)) then decide (k ≤ (64 : Int)) else false then true else !bif decide (g ≥ (0 : Int)) then decide (g ≤ (64 : Int)) else false then true else (((((ixf_cond (L, (↑(List.length L) : Int)) ((0 : Int), (0 : Int))) && (bif Nat.beq (Prod.fst (ixf_g (L, (↑(List.length L) : Int)) ((0 : Int), (0 : Int)))) (0 : Nat) then true else (Nat.beq (Prod.fst (ixf_g (L, (↑(List.length L) : Int)) ((0 : Int), (0 : Int)))) (1 : Nat)))))) && (bif decide ((bif Nat.beq (Prod.fst (ixf_g (L, (↑(List.length L) : Int)) ((0 : Int), (0 : Int)))) (0 : Nat) then Prod.fst (Prod.snd (ixf_g (L, (↑(List.length L) : Int)) ((0 : Int), (0 : Int)))) else (-1 : Int)) ≥ (0 : Int)) then true else ((decide ((0 : Int) ≤ (↑(List.length L) : Int)) && decide ((↑(List.length L) : Int) ≤ (↑(List.length L) : Int)) && decide ((↑(24 : Nat) : Int) * (↑(List.length L) : Int) ≤ (281474976710656 : Int)) && decide ((↑(List.length L) : Int) ≤ (9223372036854775807 : Int))) && ((sup_cond (g, k, L) ((0 : Int), IntKind.wrap IntKind.i64 ((↑(List.length L) : Int) - (2 : Int)), List.replicate (Int.toNat (↑(List.length L) : Int)) [])) && (bif Nat.beq (Prod.fst (sup_g (g, k, L) ((0 : Int), IntKind.wrap IntKind.i64 ((↑(List.length L) : Int) - (2 : Int)), List.replicate (Int.toNat (↑(List.length L) : Int)) []))) (0 : Nat) then true else (Nat.beq (Prod.fst (sup_g (g, k, L) ((0 : Int), IntKind.wrap IntKind.i64 ((↑(List.length L) : Int) - (2 : Int)), List.replicate (Int.toNat (↑(List.length L) : Int)) []))) (1 : Nat)))))))))) (.ret (.tup [(false, [.d false false (.list (.prod (.int .i64) (.list (.prod (.int .i64) (.int .i64))))) (bif decide ((↑(List.length L) : Int) > (256 : Int)) then [] else bif bif !bif decide (k ≥ (0 : Int)) then decide (k ≤ (64 : Int)) else false then true else !bif decide (g ≥ (0 : Int)) then decide (g ≤ (64 : Int)) else false then [] else bif decide ((bif Nat.beq (Prod.fst (ixf_g (L, (↑(List.length L) : Int)) ((0 : Int), (0 : Int)))) (0 : Nat) then Prod.fst (Prod.snd (ixf_g (L, (↑(List.length L) : Int)) ((0 : Int), (0 : Int)))) else (-1 : Int)) ≥ (0 : Int)) then [] else bif Nat.beq (Prod.fst (sup_g (g, k, L) ((0 : Int), IntKind.wrap IntKind.i64 ((↑(List.length L) : Int) - (2 : Int)), List.replicate (Int.toNat (↑(List.length L) : Int)) []))) (0 : Nat) then [] else Prod.snd (Prod.snd (Prod.snd (sup_g (g, k, L) ((0 : Int), IntKind.wrap IntKind.i64 ((↑(List.length L) : Int) - (2 : Int)), List.replicate (Int.toNat (↑(List.length L) : Int)) [])))))]), (false, [.v false (.int .i64 (bif decide ((↑(List.length L) : Int) > (256 : Int)) then (2 : Int) else bif bif !bif decide (k ≥ (0 : Int)) then decide (k ≤ (64 : Int)) else false then true else !bif decide (g ≥ (0 : Int)) then decide (g ≤ (64 : Int)) else false then (1 : Int) else bif decide ((bif Nat.beq (Prod.fst (ixf_g (L, (↑(List.length L) : Int)) ((0 : Int), (0 : Int)))) (0 : Nat) then Prod.fst (Prod.snd (ixf_g (L, (↑(List.length L) : Int)) ((0 : Int), (0 : Int)))) else (-1 : Int)) ≥ (0 : Int)) then (1 : Int) else bif Nat.beq (Prod.fst (sup_g (g, k, L) ((0 : Int), IntKind.wrap IntKind.i64 ((↑(List.length L) : Int) - (2 : Int)), List.replicate (Int.toNat (↑(List.length L) : Int)) []))) (0 : Nat) then Prod.fst (Prod.snd (sup_g (g, k, L) ((0 : Int), IntKind.wrap IntKind.i64 ((↑(List.length L) : Int) - (2 : Int)), List.replicate (Int.toNat (↑(List.length L) : Int)) []))) else (0 : Int)))])])) (.bad 116) : Tr AV).val = some (.tup [(false, [.d false false (.list (.prod (.int .i64) (.list (.prod (.int .i64) (.int .i64))))) (supL L k g)]), (false, [.v false (.int .i64 (supE L k g))])]) := by
  obtain ⟨K, rfl⟩ : ∃ K : List Rg, K = L := ⟨L, rfl⟩
  have hq : K.length ≤ 12 := of_decide_eq_true (Bool.and_eq_true _ _ ▸ hc).1
  have hs : K.all szG = true := (Bool.and_eq_true _ _ ▸ hc).2
  have nl : decide ((K.length : Int) > (256 : Int)) = false := decide_eq_false (by omega)
  have kb : (bif decide (k ≥ (0 : Int)) then decide (k ≤ (64 : Int)) else false) = decide (0 ≤ k ∧ k ≤ 64) := by
    by_cases a : 0 ≤ k
    · rw [decide_eq_true (show k ≥ 0 from a), cond_true, Bool.eq_iff_iff, decide_eq_true_eq, decide_eq_true_eq]
      exact ⟨fun b => ⟨a, b⟩, fun b => b.2⟩
    · rw [decide_eq_false (show ¬ k ≥ 0 from a), cond_false, decide_eq_false (fun b => a b.1)]
  have gb : (bif decide (g ≥ (0 : Int)) then decide (g ≤ (64 : Int)) else false) = decide (0 ≤ g ∧ g ≤ 64) := by
    by_cases a : 0 ≤ g
    · rw [decide_eq_true (show g ≥ 0 from a), cond_true, Bool.eq_iff_iff, decide_eq_true_eq, decide_eq_true_eq]
      exact ⟨fun b => ⟨a, b⟩, fun b => b.2⟩
    · rw [decide_eq_false (show ¬ g ≥ 0 from a), cond_false, decide_eq_false (fun b => a b.1)]
  unfold supE supL
  show cond _ _ _ = _
  rw [kb, gb]
  by_cases hk : 0 ≤ k ∧ k ≤ 64
  · by_cases hg : 0 ≤ g ∧ g ≤ 64
    · obtain ⟨v1, v2⟩ := ixf_run hq hs
      rcases v2 with ⟨ha, gg⟩ | ⟨ha, j, gg⟩
      · have hv : ∀ i, valG (K.getD i []) := fun i => by
          rw [List.getD_eq_getElem?_getD]
          cases e : K[i]? with
          | none => exact valG_nil
          | some r => exact valGB_iff.1 (List.all_eq_true.1 ha r (List.mem_of_getElem? e))
        have w2 : IntKind.wrap IntKind.i64 ((K.length : Int) - (2 : Int)) = (K.length : Int) - 2 := wid (by omega) (by omega)
        have c1 : decide ((0 : Int) ≤ (K.length : Int)) = true := decide_eq_true (by omega)
        have c2 : decide ((K.length : Int) ≤ (K.length : Int)) = true := decide_eq_true (Int.le_refl _)
        have c3 : decide (((24 : Nat) : Int) * (K.length : Int) ≤ (281474976710656 : Int)) = true := decide_eq_true (by omega)
        have c4 : decide ((K.length : Int) ≤ (9223372036854775807 : Int)) = true := decide_eq_true (by omega)
        have c5 : decide ((-1 : Int) ≥ (0 : Int)) = false := rfl
        obtain ⟨u1, u2⟩ := sup_run (L := K) (k := k) (g := g) hv hq
        rcases u2 with ⟨b, b1, b2⟩ | ⟨b, b1, b2⟩
        · have hok : supOK K k g = true := supOK_iff.2 ⟨hk, hg, ha, b⟩
          simp only [nl, decide_eq_true hk, decide_eq_true hg, v1, gg, w2, c1, c2, c3, c4, c5, u1, b1, b2, hok, Int.toNat_natCast, Nat.beq, Bool.not_true, Bool.and_self, cond_true, cond_false, Tr.val]
        · have hok : supOK K k g = false := supOK_f fun h => b h.2.2.2
          simp only [nl, decide_eq_true hk, decide_eq_true hg, v1, gg, w2, c1, c2, c3, c4, c5, u1, b1, hok, Int.toNat_natCast, Nat.beq, Bool.not_true, Bool.and_self, cond_true, cond_false, Tr.val]
      · have hok : supOK K k g = false := supOK_f fun h => by rw [ha] at h; cases h.2.2.1
        have c5 : decide ((j : Int) ≥ (0 : Int)) = true := decide_eq_true (by omega)
        simp only [nl, decide_eq_true hk, decide_eq_true hg, v1, gg, c5, hok, Nat.beq, Bool.not_true, Bool.and_self, cond_true, cond_false, Tr.val]
    · have hok : supOK K k g = false := supOK_f fun h => hg h.2.1
      simp only [nl, decide_eq_true hk, decide_eq_false hg, hok, Bool.not_true, Bool.not_false, cond_true, cond_false, Tr.val]
  · have hok : supOK K k g = false := supOK_f fun h => hk h.1
    simp only [nl, decide_eq_false hk, hok, Bool.not_false, cond_true, cond_false, Tr.val]
    
noncomputable def supc_g : List AV → Option (Tr AV)
  | [.one (.d _ _ (.list (.prod (.int .i64) (.list (.prod (.int .i64) (.int .i64))))) L), .one (.v _ (.int .i64 k)), .one (.v _ (.int .i64 g))] => some (.br (smL L) (.ret (.tup [(false, [.d false false (.list (.prod (.int .i64) (.list (.prod (.int .i64) (.int .i64))))) (supL L k g)]), (false, [.v false (.int .i64 (supE L k g))])])) (.bad 900))
  | _ => none
set_option maxHeartbeats 4000000 in
theorem supc_ok : FunOK Try.prog 8 supc_g := by
  refine fun_ok (by kernel_rfl) (suA_S56_ok) (suA_L55_ok) 9 (On := (opens [])) (fun args t h => ?_)
  unfold supc_g at h
  split at h
  · rename_i _ _ L _ k _ g
    simp only [Option.some.injEq] at h
    subst h
    refine ⟨[.one (.d false false (.list (.prod (.int .i64) (.list (.prod (.int .i64) (.int .i64))))) L), .one (.v false (.int .i64 k)), .one (.v false (.int .i64 g))], rfl, fun fr w us h => h, fun r hr => ?_⟩
    obtain ⟨hc, hr⟩ := br_bad hr
    simp only [Tr.val, Option.some.injEq] at hr
    subst hr
    rw [supc_tree]
    exact supc_val L k g hc
  · cases h
noncomputable def suA_S57 : Sums := addS 8 supc_g suA_S56
theorem suA_S57_ok : SumOK Try.prog suA_S57 := addS_ok (supc_ok) (suA_S56_ok)
theorem supE_iff {L : List Rg} {k g : Int} (hc : smL L = true) : (supE L k g == (0 : Int)) = supOK L k g := by
  obtain ⟨K, rfl⟩ : ∃ K : List Rg, K = L := ⟨L, rfl⟩
  have hq : K.length ≤ 12 := of_decide_eq_true (Bool.and_eq_true _ _ ▸ hc).1
  have hs : K.all szG = true := (Bool.and_eq_true _ _ ▸ hc).2
  have nl : decide ((K.length : Int) > (256 : Int)) = false := decide_eq_false (by omega)
  have kb : (bif decide (k ≥ (0 : Int)) then decide (k ≤ (64 : Int)) else false) = decide (0 ≤ k ∧ k ≤ 64) := by
    by_cases a : 0 ≤ k
    · rw [decide_eq_true (show k ≥ 0 from a), cond_true, Bool.eq_iff_iff, decide_eq_true_eq, decide_eq_true_eq]
      exact ⟨fun b => ⟨a, b⟩, fun b => b.2⟩
    · rw [decide_eq_false (show ¬ k ≥ 0 from a), cond_false, decide_eq_false (fun b => a b.1)]
  have gb : (bif decide (g ≥ (0 : Int)) then decide (g ≤ (64 : Int)) else false) = decide (0 ≤ g ∧ g ≤ 64) := by
    by_cases a : 0 ≤ g
    · rw [decide_eq_true (show g ≥ 0 from a), cond_true, Bool.eq_iff_iff, decide_eq_true_eq, decide_eq_true_eq]
      exact ⟨fun b => ⟨a, b⟩, fun b => b.2⟩
    · rw [decide_eq_false (show ¬ g ≥ 0 from a), cond_false, decide_eq_false (fun b => a b.1)]
  unfold supE 
  rw [kb, gb]
  by_cases hk : 0 ≤ k ∧ k ≤ 64
  · by_cases hg : 0 ≤ g ∧ g ≤ 64
    · obtain ⟨v1, v2⟩ := ixf_run hq hs
      rcases v2 with ⟨ha, gg⟩ | ⟨ha, j, gg⟩
      · have hv : ∀ i, valG (K.getD i []) := fun i => by
          rw [List.getD_eq_getElem?_getD]
          cases e : K[i]? with
          | none => exact valG_nil
          | some r => exact valGB_iff.1 (List.all_eq_true.1 ha r (List.mem_of_getElem? e))
        have w2 : IntKind.wrap IntKind.i64 ((K.length : Int) - (2 : Int)) = (K.length : Int) - 2 := wid (by omega) (by omega)
        have c1 : decide ((0 : Int) ≤ (K.length : Int)) = true := decide_eq_true (by omega)
        have c2 : decide ((K.length : Int) ≤ (K.length : Int)) = true := decide_eq_true (Int.le_refl _)
        have c3 : decide (((24 : Nat) : Int) * (K.length : Int) ≤ (281474976710656 : Int)) = true := decide_eq_true (by omega)
        have c4 : decide ((K.length : Int) ≤ (9223372036854775807 : Int)) = true := decide_eq_true (by omega)
        have c5 : decide ((-1 : Int) ≥ (0 : Int)) = false := rfl
        obtain ⟨u1, u2⟩ := sup_run (L := K) (k := k) (g := g) hv hq
        rcases u2 with ⟨b, b1, b2⟩ | ⟨b, b1, b2⟩
        · have hok : supOK K k g = true := supOK_iff.2 ⟨hk, hg, ha, b⟩
          simp only [nl, decide_eq_true hk, decide_eq_true hg, v1, gg, w2, c1, c2, c3, c4, c5, u1, b1, b2, hok, Int.toNat_natCast, Nat.beq, Bool.not_true, Bool.and_self, cond_true, cond_false]
          rfl
        · have hok : supOK K k g = false := supOK_f fun h => b h.2.2.2
          simp only [nl, decide_eq_true hk, decide_eq_true hg, v1, gg, w2, c5, b1, hok, Int.toNat_natCast, Nat.beq, Bool.not_true, Bool.and_self, cond_true, cond_false]
          rw [beq_eq_false_iff_ne]
          exact b2
      · have hok : supOK K k g = false := supOK_f fun h => by rw [ha] at h; cases h.2.2.1
        have c5 : decide ((j : Int) ≥ (0 : Int)) = true := decide_eq_true (by omega)
        simp only [nl, decide_eq_true hk, decide_eq_true hg, v1, gg, c5, hok, Nat.beq, Bool.not_true, Bool.and_self, cond_true, cond_false]
        rfl
    · have hok : supOK K k g = false := supOK_f fun h => hg h.2.1
      simp only [nl, decide_eq_true hk, decide_eq_false hg, hok, Bool.not_true, Bool.not_false, cond_true, cond_false]
      rfl
  · have hok : supOK K k g = false := supOK_f fun h => hk h.1
    simp only [nl, decide_eq_false hk, hok, Bool.not_false, cond_true, cond_false]
    rfl
end Go.Proofs.Ytehnepfjbaneaaa
