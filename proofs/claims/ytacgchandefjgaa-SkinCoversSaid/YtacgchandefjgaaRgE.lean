/-
  Layer 28: layers, skins.
-/
import Derived.Test.YtacgchandefjgaaProg
import Derived.Test.YtacgchandefjgaaFvX
import Derived.Test.YtacgchandefjgaaFvZ
import Derived.Test.YtacgchandefjgaaAut
import Derived.Test.YtacgchandefjgaaRd
import Derived.Test.YtacgchandefjgaaPl
import Derived.Test.YtacgchandefjgaaScn
import Derived.Test.YtacgchandefjgaaMor
import Derived.Test.YtacgchandefjgaaRgB
import Derived.Test.YtacgchandefjgaaRgC
import Derived.Test.YtacgchandefjgaaRgD
import Derived.Test.YtacgchandefjgaaRgJ
namespace Go.Proofs.Ytacgchandefjgaa
open Go
def el_lilii (l : (Ty.list (Ty.list (Ty.prod (Ty.int IntKind.i64) (Ty.list (Ty.prod (Ty.int IntKind.i64) (Ty.int IntKind.i64)))))).den) (i : Int) : (List (Int × (List (Int × Int)))) := elm (Ty.list (Ty.prod (Ty.int IntKind.i64) (Ty.list (Ty.prod (Ty.int IntKind.i64) (Ty.int IntKind.i64))))) l i
set_option maxRecDepth 100000 in
theorem layc_tree (L : (Ty.list (.list (.prod (.int .i64) (.list (.prod (.int .i64) (.int .i64)))))).den) (i : Int) : evalF Try.prog rgJ_S54 (opens []) rgJ_L53 9 73 [.one (.d false false (.list (.prod (.int .i64) (.list (.prod (.int .i64) (.int .i64))))) L), .one (.v false (.int .i64 i))] = .br ((bif bif decide (i < (0 : Int)) then true else decide (i ≥ (↑(List.length L) : Int)) then true else ((decide ((0 : Int) ≤ i) && decide (i < (↑(List.length L) : Int))) && ((szG (el_lilii L i)) && (bif !valGB (el_lilii L i) then true else (decide ((0 : Int) ≤ i) && decide (i < (↑(List.length L) : Int)))))))) (.ret (.ag [.d false false (.prod (.int .i64) (.list (.prod (.int .i64) (.int .i64)))) (bif bif decide (i < (0 : Int)) then true else decide (i ≥ (↑(List.length L) : Int)) then [] else bif !valGB (el_lilii L i) then [] else el_lilii L i)])) (.bad 116) := by kernel_rfl
theorem layc_val (L : (Ty.list (.list (.prod (.int .i64) (.list (.prod (.int .i64) (.int .i64)))))).den) (i : Int) (hc : (szL L) = true) : (.br ((bif bif decide (i < (0 : Int)) then true else decide (i ≥ (↑(List.length L) : Int)) then true else ((decide ((0 : Int) ≤ i) && decide (i < (↑(List.length L) : Int))) && ((szG (el_lilii L i)) && (bif !valGB (el_lilii L i) then true else (decide ((0 : Int) ≤ i) && decide (i < (↑(List.length L) : Int)))))))) (.ret (.ag [.d false false (.prod (.int .i64) (.list (.prod (.int .i64) (.int .i64)))) (bif bif decide (i < (0 : Int)) then true else decide (i ≥ (↑(List.length L) : Int)) then [] else bif !valGB (el_lilii L i) then [] else el_lilii L i)])) (.bad 116) : Tr AV).val = some (.ag [.d false false (.prod (.int .i64) (.list (.prod (.int .i64) (.int .i64)))) (layG L i)]) := by
  obtain ⟨K, rfl⟩ : ∃ K : List Rg, K = L := ⟨L, rfl⟩
  have hz : szL K = true := hc
  have e : el_lilii K i = K.getD i.toNat [] := rfl
  have hs := szL_get hz i.toNat
  unfold layG
  show cond _ _ _ = _
  rw [e]
  by_cases h1 : i < 0
  · have d1 : decide (i < (0 : Int)) = true := decide_eq_true h1
    have d2 : decide (0 ≤ i) = false := decide_eq_false (by omega)
    simp only [d1, d2, Bool.false_and, cond_true, cond_false, Tr.val]
  · have d1 : decide (i < (0 : Int)) = false := decide_eq_false h1
    have d2 : decide (0 ≤ i) = true := decide_eq_true (by omega)
    by_cases h2 : i ≥ (K.length : Int)
    · have d3 : decide (i ≥ (K.length : Int)) = true := decide_eq_true h2
      have d4 : decide (i < (K.length : Int)) = false := decide_eq_false (by omega)
      simp only [d1, d2, d3, d4, Bool.and_false, cond_true, cond_false, Tr.val]
    · have d3 : decide (i ≥ (K.length : Int)) = false := decide_eq_false h2
      have d4 : decide (i < (K.length : Int)) = true := decide_eq_true (by omega)
      cases hv : valGB (K.getD i.toNat [])
      · simp only [d1, d2, d3, d4, hs, Bool.not_false, Bool.and_self, cond_true, cond_false, Tr.val]
      · simp only [d1, d2, d3, d4, hs, Bool.not_true, Bool.and_self, cond_true, cond_false, Tr.val]
noncomputable def layc_g : List AV → Option (Tr AV)
  | [.one (.d _ _ (.list (.prod (.int .i64) (.list (.prod (.int .i64) (.int .i64))))) L), .one (.v _ (.int .i64 i))] => some (.br (szL L) (.ret (.ag [.d false false (.prod (.int .i64) (.list (.prod (.int .i64) (.int .i64)))) (layG L i)])) (.bad 900))
  | _ => none
set_option maxHeartbeats 4000000 in
theorem layc_ok : FunOK Try.prog 73 layc_g := by
  refine fun_ok (by kernel_rfl) (rgJ_S54_ok) (rgJ_L53_ok) 9 (On := (opens [])) (fun args t h => ?_)
  unfold layc_g at h
  split at h
  · rename_i _ _ L _ i
    simp only [Option.some.injEq] at h
    subst h
    refine ⟨[.one (.d false false (.list (.prod (.int .i64) (.list (.prod (.int .i64) (.int .i64))))) L), .one (.v false (.int .i64 i))], rfl, fun fr w us h => h, fun r hr => ?_⟩
    obtain ⟨hc, hr⟩ := br_bad hr
    simp only [Tr.val, Option.some.injEq] at hr
    subst hr
    rw [layc_tree]
    exact layc_val L i hc
  · cases h
noncomputable def rgE_S51 : Sums := addS 73 layc_g rgJ_S54
theorem rgE_S51_ok : SumOK Try.prog rgE_S51 := addS_ok (layc_ok) (rgJ_S54_ok)
abbrev sk0_U : Type := (Ty.list (.list (.prod (.int .i64) (.list (.prod (.int .i64) (.int .i64)))))).den × Int × Int × Int × (Ty.list (.prod (.int .i64) (.list (.prod (.int .i64) (.int .i64))))).den
noncomputable def sk0_St (u : sk0_U) (v : ctb0_U) : Stt := ⟨[.one (.d false false (.list (.prod (.int .i64) (.list (.prod (.int .i64) (.int .i64))))) u.1), .one (.v false (.int .i64 u.2.1)), .one .junk, .one (.v false (.int .i64 u.2.2.1)), .one .junk, .one .junk, .one .junk, .one .junk, .one (.p 0 0), .one (.p 1 0), .one (.p 5 0), .one (.p 10 0), .one .junk, .one .junk, .one .junk, .one .junk, .one .junk, .one .junk, .one .junk, .one .junk, .one .junk, .one .junk, .one .junk, .one (.v false (.int .i64 u.2.2.2.1)), .one (.v false (.int .i64 v.1)), .one .junk, .one .junk, .one .junk, .one .junk, .one .junk, .one .junk, .one .junk, .one .junk, .one .junk, .one .junk, .one .junk, .one .junk, .one .junk, .one .junk, .one .junk, .one .junk, .one .junk, .one .junk, .one .junk, .one .junk, .one .junk, .one .junk, .one .junk, .one .junk, .one .junk, .one .junk, .one .junk, .one .junk, .one .junk, .one .junk, .one .junk], [(10, .cells [.d false false (.prod (.int .i64) (.list (.prod (.int .i64) (.int .i64)))) v.2]), (5, .cells [.d false false (.prod (.int .i64) (.list (.prod (.int .i64) (.int .i64)))) u.2.2.2.2]), (1, .cells [.v false (Value.slice none (0 : Nat) (0 : Nat))]), (0, .cells [.v false (Value.slice none (0 : Nat) (0 : Nat))])], 1017⟩
noncomputable def sk0_step (u : sk0_U) (v : ctb0_U) : Tr (ctb0_U ⊕ (Nat × ctb0_U)) :=
  match u, v with
  | (q0, q1, _, q3, _), (q4, q5) => .br (decide (q4 < q3)) (.br (szL q0) (.br (szG q5 && szG (layG q0 (IntKind.wrap .i64 (IntKind.wrap .i64 (q1 + (1 : Int)) + q4)))) (.ret (.inl (IntKind.wrap .i64 (q4 + (1 : Int)), opR (1 : Int) q5 (layG q0 (IntKind.wrap .i64 (IntKind.wrap .i64 (q1 + (1 : Int)) + q4)))))) (.bad 900)) (.bad 900)) (.ret (.inr (0, (q4, q5))))
set_option maxRecDepth 100000 in
set_option maxHeartbeats 4000000 in
theorem sk0_step_eq : ∀ (u : sk0_U) (v : ctb0_U), (evalC Try.prog (evalB Try.prog rgE_S51 (opens []) rgJ_L53 7).1 (evalB Try.prog rgE_S51 (opens []) rgJ_L53 7).2 (opens []) (rgJ_L53 40) 100000 (0 :: [0, 1, 0, 1, 1, 1]) (loopOf (bodyOf Try.prog 40) [1, 1, 1, 0, 1, 0]) (sk0_St u v) []).bind (finF [2, 4, 5, 6, 7, 12, 13, 14, 15, 16, 17, 18, 19, 20, 21, 22, 25, 26, 27, 28, 29, 30, 31, 32, 33, 34, 35, 36, 37, 38, 39, 40, 41, 42, 43, 44, 45, 46, 47, 48, 49, 50, 51, 52, 53, 54, 55] [] [10, 5, 1, 0] [] 1017) = (sk0_step u v).bind (outA (sk0_St u) [.exit 0]) := by
  rintro ⟨q0, q1, q2, q3, q6⟩ ⟨q4, q5⟩
  kernel_rfl
noncomputable def sk0_rd (b : Bool) (o0 : Option AV) (o1 : Option AV) (o3 : Option AV) (o8 : Option AV) (o9 : Option AV) (o10 : Option AV) (o11 : Option AV) (o23 : Option AV) (o24 : Option AV) (own : Own) : Option (sk0_U × ctb0_U) := zrT b <| zrO o0 fun za1 => zrA1 za1 fun zc2 => zrD (.list (.prod (.int .i64) (.list (.prod (.int .i64) (.int .i64))))) zc2 fun q0 => zrO o1 fun za3 => zrA1 za3 fun zc4 => zrI .i64 zc4 fun q1 => zrO o3 fun za5 => zrA1 za5 fun zc6 => zrI .i64 zc6 fun q2 => zrO o8 fun za7 => zrA1 za7 fun zc8 => zrP 0 0 zc8 <| zrO o9 fun za9 => zrA1 za9 fun zc10 => zrP 1 0 zc10 <| zrO o10 fun za11 => zrA1 za11 fun zc12 => zrP 5 0 zc12 <| zrO o11 fun za13 => zrA1 za13 fun zc14 => zrP 10 0 zc14 <| zrO o23 fun za15 => zrA1 za15 fun zc16 => zrI .i64 zc16 fun q3 => zrO o24 fun za17 => zrA1 za17 fun zc18 => zrI .i64 zc18 fun q4 => zrL own fun zq19 zw20 => zrKey 10 zq19 fun zk21 => zrC zk21 fun zl22 => zrL zl22 fun zc23 zr24 => zrD (.prod (.int .i64) (.list (.prod (.int .i64) (.int .i64)))) zc23 fun q5 => zrN zr24 <| zrL zw20 fun zq25 zw26 => zrKey 5 zq25 fun zk27 => zrC zk27 fun zl28 => zrL zl28 fun zc29 zr30 => zrD (.prod (.int .i64) (.list (.prod (.int .i64) (.int .i64)))) zc29 fun q6 => zrN zr30 <| zrL zw26 fun zq31 zw32 => zrKey 1 zq31 fun zk33 => zrC zk33 fun zl34 => zrL zl34 fun zc35 zr36 => zrNil zc35 <| zrN zr36 <| zrL zw32 fun zq37 zw38 => zrKey 0 zq37 fun zk39 => zrC zk39 fun zl40 => zrL zl40 fun zc41 zr42 => zrNil zc41 <| zrN zr42 <| zrN zw38 <| some ((q0, q1, q2, q3, q6), (q4, q5))
noncomputable def sk0_can (st : Stt) : Stt := canA [2, 4, 5, 6, 7, 12, 13, 14, 15, 16, 17, 18, 19, 20, 21, 22, 25, 26, 27, 28, 29, 30, 31, 32, 33, 34, 35, 36, 37, 38, 39, 40, 41, 42, 43, 44, 45, 46, 47, 48, 49, 50, 51, 52, 53, 54, 55] [] [10, 5, 1, 0] [] 1017 st
noncomputable def sk0_cok (st : Stt) : Bool := canAok [2, 4, 5, 6, 7, 12, 13, 14, 15, 16, 17, 18, 19, 20, 21, 22, 25, 26, 27, 28, 29, 30, 31, 32, 33, 34, 35, 36, 37, 38, 39, 40, 41, 42, 43, 44, 45, 46, 47, 48, 49, 50, 51, 52, 53, 54, 55] [] [10, 5, 1, 0] [] 1017 st
noncomputable def sk0_read (st : Stt) : Option (sk0_U × ctb0_U) := sk0_rd (sk0_cok st && (staysA [] [10, 5, 1, 0] st.own && juAll [2, 4, 5, 6, 7, 12, 13, 14, 15, 16, 17, 18, 19, 20, 21, 22, 25, 26, 27, 28, 29, 30, 31, 32, 33, 34, 35, 36, 37, 38, 39, 40, 41, 42, 43, 44, 45, 46, 47, 48, 49, 50, 51, 52, 53, 54, 55] (sk0_can st).tm 56)) (sk0_can st).tm[0]? (sk0_can st).tm[1]? (sk0_can st).tm[3]? (sk0_can st).tm[8]? (sk0_can st).tm[9]? (sk0_can st).tm[10]? (sk0_can st).tm[11]? (sk0_can st).tm[23]? (sk0_can st).tm[24]? (sk0_can st).own
set_option maxRecDepth 100000 in
set_option maxHeartbeats 4000000 in
theorem sk0_rd_ok {b : Bool} {tm : List AV} {own : Own} {u : sk0_U} {v : ctb0_U} (hj : b = true → juAll [2, 4, 5, 6, 7, 12, 13, 14, 15, 16, 17, 18, 19, 20, 21, 22, 25, 26, 27, 28, 29, 30, 31, 32, 33, 34, 35, 36, 37, 38, 39, 40, 41, 42, 43, 44, 45, 46, 47, 48, 49, 50, 51, 52, 53, 54, 55] tm 56 = true) (h : sk0_rd b tm[0]? tm[1]? tm[3]? tm[8]? tm[9]? tm[10]? tm[11]? tm[23]? tm[24]? own = some (u, v)) : b = true ∧ tm = (sk0_St u v).tm ∧ own = (sk0_St u v).own := by
  unfold sk0_rd at h
  obtain ⟨rfl, h0⟩ := zrT_some h
  obtain ⟨za1, e0, h1⟩ := zrO_some h0
  obtain ⟨zc2, rfl, h2⟩ := zrA1_some h1
  obtain ⟨q0, rfl, h3⟩ := zrD_some h2
  obtain ⟨za3, e1, h4⟩ := zrO_some h3
  obtain ⟨zc4, rfl, h5⟩ := zrA1_some h4
  obtain ⟨q1, rfl, h6⟩ := zrI_some h5
  obtain ⟨za5, e3, h7⟩ := zrO_some h6
  obtain ⟨zc6, rfl, h8⟩ := zrA1_some h7
  obtain ⟨q2, rfl, h9⟩ := zrI_some h8
  obtain ⟨za7, e8, h10⟩ := zrO_some h9
  obtain ⟨zc8, rfl, h11⟩ := zrA1_some h10
  obtain ⟨rfl, h12⟩ := zrP_some h11
  obtain ⟨za9, e9, h13⟩ := zrO_some h12
  obtain ⟨zc10, rfl, h14⟩ := zrA1_some h13
  obtain ⟨rfl, h15⟩ := zrP_some h14
  obtain ⟨za11, e10, h16⟩ := zrO_some h15
  obtain ⟨zc12, rfl, h17⟩ := zrA1_some h16
  obtain ⟨rfl, h18⟩ := zrP_some h17
  obtain ⟨za13, e11, h19⟩ := zrO_some h18
  obtain ⟨zc14, rfl, h20⟩ := zrA1_some h19
  obtain ⟨rfl, h21⟩ := zrP_some h20
  obtain ⟨za15, e23, h22⟩ := zrO_some h21
  obtain ⟨zc16, rfl, h23⟩ := zrA1_some h22
  obtain ⟨q3, rfl, h24⟩ := zrI_some h23
  obtain ⟨za17, e24, h25⟩ := zrO_some h24
  obtain ⟨zc18, rfl, h26⟩ := zrA1_some h25
  obtain ⟨q4, rfl, h27⟩ := zrI_some h26
  obtain ⟨zq19, zw20, rfl, h28⟩ := zrL_some h27
  obtain ⟨zk21, rfl, h29⟩ := zrKey_some h28
  obtain ⟨zl22, rfl, h30⟩ := zrC_some h29
  obtain ⟨zc23, zr24, rfl, h31⟩ := zrL_some h30
  obtain ⟨q5, rfl, h32⟩ := zrD_some h31
  obtain ⟨rfl, h33⟩ := zrN_some h32
  obtain ⟨zq25, zw26, rfl, h34⟩ := zrL_some h33
  obtain ⟨zk27, rfl, h35⟩ := zrKey_some h34
  obtain ⟨zl28, rfl, h36⟩ := zrC_some h35
  obtain ⟨zc29, zr30, rfl, h37⟩ := zrL_some h36
  obtain ⟨q6, rfl, h38⟩ := zrD_some h37
  obtain ⟨rfl, h39⟩ := zrN_some h38
  obtain ⟨zq31, zw32, rfl, h40⟩ := zrL_some h39
  obtain ⟨zk33, rfl, h41⟩ := zrKey_some h40
  obtain ⟨zl34, rfl, h42⟩ := zrC_some h41
  obtain ⟨zc35, zr36, rfl, h43⟩ := zrL_some h42
  obtain ⟨rfl, h44⟩ := zrNil_some h43
  obtain ⟨rfl, h45⟩ := zrN_some h44
  obtain ⟨zq37, zw38, rfl, h46⟩ := zrL_some h45
  obtain ⟨zk39, rfl, h47⟩ := zrKey_some h46
  obtain ⟨zl40, rfl, h48⟩ := zrC_some h47
  obtain ⟨zc41, zr42, rfl, h49⟩ := zrL_some h48
  obtain ⟨rfl, h50⟩ := zrNil_some h49
  obtain ⟨rfl, h51⟩ := zrN_some h50
  obtain ⟨rfl, h52⟩ := zrN_some h51
  have h := Option.some.inj h52
  have hu := congrArg Prod.fst h
  have hv := congrArg Prod.snd h
  dsimp only at hu hv
  subst hu
  subst hv
  exact ⟨rfl, (tm_fill (hj rfl) (Lv := [(0, .one (.d false false (.list (.prod (.int .i64) (.list (.prod (.int .i64) (.int .i64))))) q0)), (1, .one (.v false (.int .i64 q1))), (3, .one (.v false (.int .i64 q2))), (8, .one (.p 0 0)), (9, .one (.p 1 0)), (10, .one (.p 5 0)), (11, .one (.p 10 0)), (23, .one (.v false (.int .i64 q3))), (24, .one (.v false (.int .i64 q4)))]) (by kernel_rfl) ⟨e0, e1, e3, e8, e9, e10, e11, e23, e24, trivial⟩).trans (by kernel_rfl), rfl⟩
theorem sk0_read_ok (st : Stt) (u : sk0_U) (v : ctb0_U) (h : sk0_read st = some (u, v)) : sk0_cok st = true ∧ staysA [] [10, 5, 1, 0] st.own = true ∧ sk0_can st = sk0_St u v := by
  obtain ⟨h1, h2, h3⟩ := sk0_rd_ok (fun hb => by rw [Bool.and_eq_true, Bool.and_eq_true] at hb; exact hb.2.2) h
  rw [Bool.and_eq_true, Bool.and_eq_true] at h1
  refine ⟨h1.1, h1.2.1, ?_⟩
  have e : sk0_can st = ⟨(sk0_can st).tm, (sk0_can st).own, 1017⟩ := by kernel_rfl
  rw [e, h2, h3]
  rfl
noncomputable def sk0_cond (u : sk0_U) (v : ctb0_U) : Bool := runC (sk0_step u) v
noncomputable def sk0_g (u : sk0_U) (v : ctb0_U) : Nat × ctb0_U := runG (sk0_step u) v
theorem sk0_hg : ∀ (u : sk0_U) (v : ctb0_U), sk0_cond u v = true → loopN (sk0_step u) ((fun u v => runF (sk0_step u) v) u v) v = some (sk0_g u v) := by
  exact fun u v h => run_hg h
noncomputable def sk0_m (st : Stt) : Option (Tr (Ex × Stt)) := sumM sk0_read sk0_cond sk0_St sk0_g [(0, .exit 0)] st
noncomputable def rgE_L52 : FuncId → Loops := addL 40 [0, 1, 0, 1, 1, 1] sk0_m rgJ_L53
set_option maxRecDepth 100000 in
set_option maxHeartbeats 4000000 in
theorem rgE_L52_ok : LoopsOK Try.prog rgE_L52 :=
  loop_sumF (body := (bodyOf Try.prog 40)) (c := (loopOf (bodyOf Try.prog 40) [1, 1, 1, 0, 1, 0])) (kinds := [.exit 0]) (allow := [(0, .exit 0)]) (St := sk0_St) (step := sk0_step) (W := [2, 4, 5, 6, 7, 12, 13, 14, 15, 16, 17, 18, 19, 20, 21, 22, 25, 26, 27, 28, 29, 30, 31, 32, 33, 34, 35, 36, 37, 38, 39, 40, 41, 42, 43, 44, 45, 46, 47, 48, 49, 50, 51, 52, 53, 54, 55]) (As := []) (ks := [10, 5, 1, 0]) (dd := []) (nx := 1017) (n := 100000) (g := sk0_g) (cond := sk0_cond) (fuel := (fun u v => runF (sk0_step u) v)) (read := sk0_read) (by kernel_rfl) (rgE_S51_ok) (rgJ_L53_ok) 7 ⟨Try.f40, by kernel_rfl, by kernel_rfl⟩ (by kernel_rfl) (by kernel_rfl) (by kernel_rfl) sk0_step_eq sk0_hg sk0_read_ok
abbrev sk1_U : Type := (Ty.list (.list (.prod (.int .i64) (.list (.prod (.int .i64) (.int .i64)))))).den × Int × Int × (Ty.list (.prod (.int .i64) (.list (.prod (.int .i64) (.int .i64))))).den
noncomputable def sk1_St (u : sk1_U) (v : ctb0_U) : Stt := ⟨[.one (.d false false (.list (.prod (.int .i64) (.list (.prod (.int .i64) (.int .i64))))) u.1), .one (.v false (.int .i64 u.2.1)), .one .junk, .one .junk, .one .junk, .one .junk, .one .junk, .one .junk, .one (.p 0 0), .one (.p 1 0), .one (.p 5 0), .one (.p 10 0), .one .junk, .one .junk, .one .junk, .one .junk, .one .junk, .one .junk, .one .junk, .one .junk, .one .junk, .one .junk, .one .junk, .one .junk, .one .junk, .one .junk, .one .junk, .one .junk, .one .junk, .one .junk, .one .junk, .one .junk, .one .junk, .one .junk, .one .junk, .one .junk, .one .junk, .one .junk, .one .junk, .one (.v false (.int .i64 u.2.2.1)), .one (.v false (.int .i64 v.1)), .one .junk, .one .junk, .one .junk, .one .junk, .one .junk, .one .junk, .one .junk, .one .junk, .one .junk, .one .junk, .one .junk, .one .junk, .one .junk, .one .junk, .one .junk], [(10, .cells [.d false false (.prod (.int .i64) (.list (.prod (.int .i64) (.int .i64)))) v.2]), (5, .cells [.d false false (.prod (.int .i64) (.list (.prod (.int .i64) (.int .i64)))) u.2.2.2]), (1, .cells [.v false (Value.slice none (0 : Nat) (0 : Nat))]), (0, .cells [.v false (Value.slice none (0 : Nat) (0 : Nat))])], 2022⟩
noncomputable def sk1_step (u : sk1_U) (v : ctb0_U) : Tr (ctb0_U ⊕ (Nat × ctb0_U)) :=
  match u, v with
  | (q0, q1, q2, _), (q3, q4) => .br (decide (q3 < q2)) (.br (szL q0) (.br (szG q4 && szG (layG q0 (IntKind.wrap .i64 (IntKind.wrap .i64 (q1 - (1 : Int)) - q3)))) (.ret (.inl (IntKind.wrap .i64 (q3 + (1 : Int)), opR (1 : Int) q4 (layG q0 (IntKind.wrap .i64 (IntKind.wrap .i64 (q1 - (1 : Int)) - q3)))))) (.bad 900)) (.bad 900)) (.ret (.inr (0, (q3, q4))))
set_option maxRecDepth 100000 in
set_option maxHeartbeats 4000000 in
theorem sk1_step_eq : ∀ (u : sk1_U) (v : ctb0_U), (evalC Try.prog (evalB Try.prog rgE_S51 (opens []) rgE_L52 7).1 (evalB Try.prog rgE_S51 (opens []) rgE_L52 7).2 (opens []) (rgE_L52 40) 100000 (0 :: [0, 1, 0, 1, 1, 1, 1]) (loopOf (bodyOf Try.prog 40) [1, 1, 1, 1, 0, 1, 0]) (sk1_St u v) []).bind (finF [2, 3, 4, 5, 6, 7, 12, 13, 14, 15, 16, 17, 18, 19, 20, 21, 22, 23, 24, 25, 26, 27, 28, 29, 30, 31, 32, 33, 34, 35, 36, 37, 38, 41, 42, 43, 44, 45, 46, 47, 48, 49, 50, 51, 52, 53, 54, 55] [] [10, 5, 1, 0] [] 2022) = (sk1_step u v).bind (outA (sk1_St u) [.exit 2]) := by
  rintro ⟨q0, q1, q2, q5⟩ ⟨q3, q4⟩
  kernel_rfl
noncomputable def sk1_rd (b : Bool) (o0 : Option AV) (o1 : Option AV) (o8 : Option AV) (o9 : Option AV) (o10 : Option AV) (o11 : Option AV) (o39 : Option AV) (o40 : Option AV) (own : Own) : Option (sk1_U × ctb0_U) := zrT b <| zrO o0 fun za1 => zrA1 za1 fun zc2 => zrD (.list (.prod (.int .i64) (.list (.prod (.int .i64) (.int .i64))))) zc2 fun q0 => zrO o1 fun za3 => zrA1 za3 fun zc4 => zrI .i64 zc4 fun q1 => zrO o8 fun za5 => zrA1 za5 fun zc6 => zrP 0 0 zc6 <| zrO o9 fun za7 => zrA1 za7 fun zc8 => zrP 1 0 zc8 <| zrO o10 fun za9 => zrA1 za9 fun zc10 => zrP 5 0 zc10 <| zrO o11 fun za11 => zrA1 za11 fun zc12 => zrP 10 0 zc12 <| zrO o39 fun za13 => zrA1 za13 fun zc14 => zrI .i64 zc14 fun q2 => zrO o40 fun za15 => zrA1 za15 fun zc16 => zrI .i64 zc16 fun q3 => zrL own fun zq17 zw18 => zrKey 10 zq17 fun zk19 => zrC zk19 fun zl20 => zrL zl20 fun zc21 zr22 => zrD (.prod (.int .i64) (.list (.prod (.int .i64) (.int .i64)))) zc21 fun q4 => zrN zr22 <| zrL zw18 fun zq23 zw24 => zrKey 5 zq23 fun zk25 => zrC zk25 fun zl26 => zrL zl26 fun zc27 zr28 => zrD (.prod (.int .i64) (.list (.prod (.int .i64) (.int .i64)))) zc27 fun q5 => zrN zr28 <| zrL zw24 fun zq29 zw30 => zrKey 1 zq29 fun zk31 => zrC zk31 fun zl32 => zrL zl32 fun zc33 zr34 => zrNil zc33 <| zrN zr34 <| zrL zw30 fun zq35 zw36 => zrKey 0 zq35 fun zk37 => zrC zk37 fun zl38 => zrL zl38 fun zc39 zr40 => zrNil zc39 <| zrN zr40 <| zrN zw36 <| some ((q0, q1, q2, q5), (q3, q4))
noncomputable def sk1_can (st : Stt) : Stt := canA [2, 3, 4, 5, 6, 7, 12, 13, 14, 15, 16, 17, 18, 19, 20, 21, 22, 23, 24, 25, 26, 27, 28, 29, 30, 31, 32, 33, 34, 35, 36, 37, 38, 41, 42, 43, 44, 45, 46, 47, 48, 49, 50, 51, 52, 53, 54, 55] [] [10, 5, 1, 0] [] 2022 st
noncomputable def sk1_cok (st : Stt) : Bool := canAok [2, 3, 4, 5, 6, 7, 12, 13, 14, 15, 16, 17, 18, 19, 20, 21, 22, 23, 24, 25, 26, 27, 28, 29, 30, 31, 32, 33, 34, 35, 36, 37, 38, 41, 42, 43, 44, 45, 46, 47, 48, 49, 50, 51, 52, 53, 54, 55] [] [10, 5, 1, 0] [] 2022 st
noncomputable def sk1_read (st : Stt) : Option (sk1_U × ctb0_U) := sk1_rd (sk1_cok st && (staysA [] [10, 5, 1, 0] st.own && juAll [2, 3, 4, 5, 6, 7, 12, 13, 14, 15, 16, 17, 18, 19, 20, 21, 22, 23, 24, 25, 26, 27, 28, 29, 30, 31, 32, 33, 34, 35, 36, 37, 38, 41, 42, 43, 44, 45, 46, 47, 48, 49, 50, 51, 52, 53, 54, 55] (sk1_can st).tm 56)) (sk1_can st).tm[0]? (sk1_can st).tm[1]? (sk1_can st).tm[8]? (sk1_can st).tm[9]? (sk1_can st).tm[10]? (sk1_can st).tm[11]? (sk1_can st).tm[39]? (sk1_can st).tm[40]? (sk1_can st).own
set_option maxRecDepth 100000 in
set_option maxHeartbeats 4000000 in
theorem sk1_rd_ok {b : Bool} {tm : List AV} {own : Own} {u : sk1_U} {v : ctb0_U} (hj : b = true → juAll [2, 3, 4, 5, 6, 7, 12, 13, 14, 15, 16, 17, 18, 19, 20, 21, 22, 23, 24, 25, 26, 27, 28, 29, 30, 31, 32, 33, 34, 35, 36, 37, 38, 41, 42, 43, 44, 45, 46, 47, 48, 49, 50, 51, 52, 53, 54, 55] tm 56 = true) (h : sk1_rd b tm[0]? tm[1]? tm[8]? tm[9]? tm[10]? tm[11]? tm[39]? tm[40]? own = some (u, v)) : b = true ∧ tm = (sk1_St u v).tm ∧ own = (sk1_St u v).own := by
  unfold sk1_rd at h
  obtain ⟨rfl, h0⟩ := zrT_some h
  obtain ⟨za1, e0, h1⟩ := zrO_some h0
  obtain ⟨zc2, rfl, h2⟩ := zrA1_some h1
  obtain ⟨q0, rfl, h3⟩ := zrD_some h2
  obtain ⟨za3, e1, h4⟩ := zrO_some h3
  obtain ⟨zc4, rfl, h5⟩ := zrA1_some h4
  obtain ⟨q1, rfl, h6⟩ := zrI_some h5
  obtain ⟨za5, e8, h7⟩ := zrO_some h6
  obtain ⟨zc6, rfl, h8⟩ := zrA1_some h7
  obtain ⟨rfl, h9⟩ := zrP_some h8
  obtain ⟨za7, e9, h10⟩ := zrO_some h9
  obtain ⟨zc8, rfl, h11⟩ := zrA1_some h10
  obtain ⟨rfl, h12⟩ := zrP_some h11
  obtain ⟨za9, e10, h13⟩ := zrO_some h12
  obtain ⟨zc10, rfl, h14⟩ := zrA1_some h13
  obtain ⟨rfl, h15⟩ := zrP_some h14
  obtain ⟨za11, e11, h16⟩ := zrO_some h15
  obtain ⟨zc12, rfl, h17⟩ := zrA1_some h16
  obtain ⟨rfl, h18⟩ := zrP_some h17
  obtain ⟨za13, e39, h19⟩ := zrO_some h18
  obtain ⟨zc14, rfl, h20⟩ := zrA1_some h19
  obtain ⟨q2, rfl, h21⟩ := zrI_some h20
  obtain ⟨za15, e40, h22⟩ := zrO_some h21
  obtain ⟨zc16, rfl, h23⟩ := zrA1_some h22
  obtain ⟨q3, rfl, h24⟩ := zrI_some h23
  obtain ⟨zq17, zw18, rfl, h25⟩ := zrL_some h24
  obtain ⟨zk19, rfl, h26⟩ := zrKey_some h25
  obtain ⟨zl20, rfl, h27⟩ := zrC_some h26
  obtain ⟨zc21, zr22, rfl, h28⟩ := zrL_some h27
  obtain ⟨q4, rfl, h29⟩ := zrD_some h28
  obtain ⟨rfl, h30⟩ := zrN_some h29
  obtain ⟨zq23, zw24, rfl, h31⟩ := zrL_some h30
  obtain ⟨zk25, rfl, h32⟩ := zrKey_some h31
  obtain ⟨zl26, rfl, h33⟩ := zrC_some h32
  obtain ⟨zc27, zr28, rfl, h34⟩ := zrL_some h33
  obtain ⟨q5, rfl, h35⟩ := zrD_some h34
  obtain ⟨rfl, h36⟩ := zrN_some h35
  obtain ⟨zq29, zw30, rfl, h37⟩ := zrL_some h36
  obtain ⟨zk31, rfl, h38⟩ := zrKey_some h37
  obtain ⟨zl32, rfl, h39⟩ := zrC_some h38
  obtain ⟨zc33, zr34, rfl, h40⟩ := zrL_some h39
  obtain ⟨rfl, h41⟩ := zrNil_some h40
  obtain ⟨rfl, h42⟩ := zrN_some h41
  obtain ⟨zq35, zw36, rfl, h43⟩ := zrL_some h42
  obtain ⟨zk37, rfl, h44⟩ := zrKey_some h43
  obtain ⟨zl38, rfl, h45⟩ := zrC_some h44
  obtain ⟨zc39, zr40, rfl, h46⟩ := zrL_some h45
  obtain ⟨rfl, h47⟩ := zrNil_some h46
  obtain ⟨rfl, h48⟩ := zrN_some h47
  obtain ⟨rfl, h49⟩ := zrN_some h48
  have h := Option.some.inj h49
  have hu := congrArg Prod.fst h
  have hv := congrArg Prod.snd h
  dsimp only at hu hv
  subst hu
  subst hv
  exact ⟨rfl, (tm_fill (hj rfl) (Lv := [(0, .one (.d false false (.list (.prod (.int .i64) (.list (.prod (.int .i64) (.int .i64))))) q0)), (1, .one (.v false (.int .i64 q1))), (8, .one (.p 0 0)), (9, .one (.p 1 0)), (10, .one (.p 5 0)), (11, .one (.p 10 0)), (39, .one (.v false (.int .i64 q2))), (40, .one (.v false (.int .i64 q3)))]) (by kernel_rfl) ⟨e0, e1, e8, e9, e10, e11, e39, e40, trivial⟩).trans (by kernel_rfl), rfl⟩
theorem sk1_read_ok (st : Stt) (u : sk1_U) (v : ctb0_U) (h : sk1_read st = some (u, v)) : sk1_cok st = true ∧ staysA [] [10, 5, 1, 0] st.own = true ∧ sk1_can st = sk1_St u v := by
  obtain ⟨h1, h2, h3⟩ := sk1_rd_ok (fun hb => by rw [Bool.and_eq_true, Bool.and_eq_true] at hb; exact hb.2.2) h
  rw [Bool.and_eq_true, Bool.and_eq_true] at h1
  refine ⟨h1.1, h1.2.1, ?_⟩
  have e : sk1_can st = ⟨(sk1_can st).tm, (sk1_can st).own, 2022⟩ := by kernel_rfl
  rw [e, h2, h3]
  rfl
noncomputable def sk1_cond (u : sk1_U) (v : ctb0_U) : Bool := runC (sk1_step u) v
noncomputable def sk1_g (u : sk1_U) (v : ctb0_U) : Nat × ctb0_U := runG (sk1_step u) v
theorem sk1_hg : ∀ (u : sk1_U) (v : ctb0_U), sk1_cond u v = true → loopN (sk1_step u) ((fun u v => runF (sk1_step u) v) u v) v = some (sk1_g u v) := by
  exact fun u v h => run_hg h
noncomputable def sk1_m (st : Stt) : Option (Tr (Ex × Stt)) := sumM sk1_read sk1_cond sk1_St sk1_g [(0, .exit 2)] st
noncomputable def rgE_L53 : FuncId → Loops := addL 40 [0, 1, 0, 1, 1, 1, 1] sk1_m rgE_L52
set_option maxRecDepth 100000 in
set_option maxHeartbeats 4000000 in
theorem rgE_L53_ok : LoopsOK Try.prog rgE_L53 :=
  loop_sumF (body := (bodyOf Try.prog 40)) (c := (loopOf (bodyOf Try.prog 40) [1, 1, 1, 1, 0, 1, 0])) (kinds := [.exit 2]) (allow := [(0, .exit 2)]) (St := sk1_St) (step := sk1_step) (W := [2, 3, 4, 5, 6, 7, 12, 13, 14, 15, 16, 17, 18, 19, 20, 21, 22, 23, 24, 25, 26, 27, 28, 29, 30, 31, 32, 33, 34, 35, 36, 37, 38, 41, 42, 43, 44, 45, 46, 47, 48, 49, 50, 51, 52, 53, 54, 55]) (As := []) (ks := [10, 5, 1, 0]) (dd := []) (nx := 2022) (n := 100000) (g := sk1_g) (cond := sk1_cond) (fuel := (fun u v => runF (sk1_step u) v)) (read := sk1_read) (by kernel_rfl) (rgE_S51_ok) (rgE_L52_ok) 7 ⟨Try.f40, by kernel_rfl, by kernel_rfl⟩ (by kernel_rfl) (by kernel_rfl) (by kernel_rfl) sk1_step_eq sk1_hg sk1_read_ok
theorem sk0_run {L : List Rg} {i b : Int} {o s0 : Rg} (hz : szL L = true) (hs : valG s0) (N : Int) (hN : N ≤ 10000) : sk0_cond (L, i, b, N, o) (0, s0) = true ∧ sk0_g (L, i, b, N, o) (0, s0) = (0, ((N.toNat : Int), foldG (fun k => layG L (IntKind.wrap .i64 (IntKind.wrap .i64 (i + (1 : Int)) + (k : Int)))) N.toNat s0)) := by
  have R1 := run_steps (step := sk0_step (L, i, b, N, o)) (St := fun j => ((j : Int), foldG (fun k => layG L (IntKind.wrap .i64 (IntKind.wrap .i64 (i + (1 : Int)) + (k : Int)))) j s0)) (n := N.toNat) (t := (0, ((N.toNat : Int), foldG (fun k => layG L (IntKind.wrap .i64 (IntKind.wrap .i64 (i + (1 : Int)) + (k : Int)))) N.toNat s0))) (by
    have d : decide ((N.toNat : Int) < N) = false := decide_eq_false (by omega)
    simp only [sk0_step, Tr.val, d, cond_false]) N.toNat 0 (Nat.zero_add _) (fun j _ hj => by
    have d : decide ((j : Int) < N) = true := decide_eq_true (by omega)
    have w : IntKind.wrap .i64 ((j : Int) + (1 : Int)) = ((j + 1 : Nat) : Int) := by rw [wid (by omega) (by omega)]; omega
    have s1 := val_sz (foldG_val (f := fun k => layG L (IntKind.wrap .i64 (IntKind.wrap .i64 (i + (1 : Int)) + (k : Int)))) hs j)
    have s2 := val_sz (layG_val L (IntKind.wrap .i64 (IntKind.wrap .i64 (i + (1 : Int)) + (j : Int))))
    simp only [sk0_step, Tr.val, d, w, hz, s1, s2, Bool.and_self, cond_true]
    rfl)
  exact R1
theorem sk1_run {L : List Rg} {i : Int} {o s0 : Rg} (hz : szL L = true) (hs : valG s0) (N : Int) (hN : N ≤ 10000) : sk1_cond (L, i, N, o) (0, s0) = true ∧ sk1_g (L, i, N, o) (0, s0) = (0, ((N.toNat : Int), foldG (fun k => layG L (IntKind.wrap .i64 (IntKind.wrap .i64 (i - (1 : Int)) - (k : Int)))) N.toNat s0)) := by
  have R1 := run_steps (step := sk1_step (L, i, N, o)) (St := fun j => ((j : Int), foldG (fun k => layG L (IntKind.wrap .i64 (IntKind.wrap .i64 (i - (1 : Int)) - (k : Int)))) j s0)) (n := N.toNat) (t := (0, ((N.toNat : Int), foldG (fun k => layG L (IntKind.wrap .i64 (IntKind.wrap .i64 (i - (1 : Int)) - (k : Int)))) N.toNat s0))) (by
    have d : decide ((N.toNat : Int) < N) = false := decide_eq_false (by omega)
    simp only [sk1_step, Tr.val, d, cond_false]) N.toNat 0 (Nat.zero_add _) (fun j _ hj => by
    have d : decide ((j : Int) < N) = true := decide_eq_true (by omega)
    have w : IntKind.wrap .i64 ((j : Int) + (1 : Int)) = ((j + 1 : Nat) : Int) := by rw [wid (by omega) (by omega)]; omega
    have s1 := val_sz (foldG_val (f := fun k => layG L (IntKind.wrap .i64 (IntKind.wrap .i64 (i - (1 : Int)) - (k : Int)))) hs j)
    have s2 := val_sz (layG_val L (IntKind.wrap .i64 (IntKind.wrap .i64 (i - (1 : Int)) - (j : Int))))
    simp only [sk1_step, Tr.val, d, w, hz, s1, s2, Bool.and_self, cond_true]
    rfl)
  exact R1
theorem sk_two {L : List Rg} {i t b : Int} (hz : szL L = true) : foldG (fun k => layG L (IntKind.wrap .i64 (IntKind.wrap .i64 (i - (1 : Int)) - (k : Int)))) (skN L b) (foldG (fun k => layG L (IntKind.wrap .i64 (IntKind.wrap .i64 (i + (1 : Int)) + (k : Int)))) (skN L t) (layG L i)) = skS L i t b := by
  have hn := szL_len hz
  unfold skS
  by_cases h : i < 0 ∨ (L.length : Int) ≤ i
  · rw [layG_out h, foldG_nil, foldG_nil, foldG_nil, foldG_nil]
  · have e1 : foldG (fun k => layG L (IntKind.wrap .i64 (IntKind.wrap .i64 (i + (1 : Int)) + (k : Int)))) (skN L t) (layG L i) = foldG (fun k => layG L (i + 1 + (k : Int))) (skN L t) (layG L i) := foldG_congr fun k hk => by
      have : k < 10000 := by unfold skN at hk; omega
      rw [wid (x := i + 1) (by omega) (by omega), wid (by omega) (by omega)]
    rw [e1]
    exact foldG_congr fun k hk => by
      have : k < 10000 := by unfold skN at hk; omega
      rw [wid (x := i - 1) (by omega) (by omega), wid (by omega) (by omega)]
set_option maxRecDepth 100000 in
theorem skc_tree (L : (Ty.list (.list (.prod (.int .i64) (.list (.prod (.int .i64) (.int .i64)))))).den) (i : Int) (t : Int) (b : Int) : evalF Try.prog rgE_S51 (opens []) rgE_L53 9 40 [.one (.d false false (.list (.prod (.int .i64) (.list (.prod (.int .i64) (.int .i64))))) L), .one (.v false (.int .i64 i)), .one (.v false (.int .i64 t)), .one (.v false (.int .i64 b))] = .br (((szL L) && ((szG (layG L i) && szG []) && ((sk0_cond (L, i, b, if (↑(List.length L) : Int) < t then (↑(List.length L) : Int) else t, layG L i) ((0 : Int), opR (2 : Int) (layG L i) [])) && ((Nat.beq (Prod.fst (sk0_g (L, i, b, if (↑(List.length L) : Int) < t then (↑(List.length L) : Int) else t, layG L i) ((0 : Int), opR (2 : Int) (layG L i) []))) (0 : Nat)) && ((sk1_cond (L, i, if (↑(List.length L) : Int) < b then (↑(List.length L) : Int) else b, layG L i) ((0 : Int), Prod.snd (Prod.snd (sk0_g (L, i, b, if (↑(List.length L) : Int) < t then (↑(List.length L) : Int) else t, layG L i) ((0 : Int), opR (2 : Int) (layG L i) []))))) && ((Nat.beq (Prod.fst (sk1_g (L, i, if (↑(List.length L) : Int) < b then (↑(List.length L) : Int) else b, layG L i) ((0 : Int), Prod.snd (Prod.snd (sk0_g (L, i, b, if (↑(List.length L) : Int) < t then (↑(List.length L) : Int) else t, layG L i) ((0 : Int), opR (2 : Int) (layG L i) [])))))) (0 : Nat)) && (szG (layG L i) && szG (Prod.snd (Prod.snd (sk1_g (L, i, if (↑(List.length L) : Int) < b then (↑(List.length L) : Int) else b, layG L i) ((0 : Int), Prod.snd (Prod.snd (sk0_g (L, i, b, if (↑(List.length L) : Int) < t then (↑(List.length L) : Int) else t, layG L i) ((0 : Int), opR (2 : Int) (layG L i) []))))))))))))))) (.ret (.tup [(true, [.d false false (.prod (.int .i64) (.list (.prod (.int .i64) (.int .i64)))) (opR (0 : Int) (layG L i) (Prod.snd (Prod.snd (sk1_g (L, i, if (↑(List.length L) : Int) < b then (↑(List.length L) : Int) else b, layG L i) ((0 : Int), Prod.snd (Prod.snd (sk0_g (L, i, b, if (↑(List.length L) : Int) < t then (↑(List.length L) : Int) else t, layG L i) ((0 : Int), opR (2 : Int) (layG L i) []))))))))]), (true, [.d false false (.prod (.int .i64) (.list (.prod (.int .i64) (.int .i64)))) (Prod.snd (Prod.snd (sk1_g (L, i, if (↑(List.length L) : Int) < b then (↑(List.length L) : Int) else b, layG L i) ((0 : Int), Prod.snd (Prod.snd (sk0_g (L, i, b, if (↑(List.length L) : Int) < t then (↑(List.length L) : Int) else t, layG L i) ((0 : Int), opR (2 : Int) (layG L i) [])))))))])])) (.bad 116) := by kernel_rfl
theorem skc_val (L : (Ty.list (.list (.prod (.int .i64) (.list (.prod (.int .i64) (.int .i64)))))).den) (i : Int) (t : Int) (b : Int) (hc : (szL L) = true) : (.br (((szL L) && ((szG (layG L i) && szG []) && ((sk0_cond (L, i, b, if (↑(List.length L) : Int) < t then (↑(List.length L) : Int) else t, layG L i) ((0 : Int), opR (2 : Int) (layG L i) [])) && ((Nat.beq (Prod.fst (sk0_g (L, i, b, if (↑(List.length L) : Int) < t then (↑(List.length L) : Int) else t, layG L i) ((0 : Int), opR (2 : Int) (layG L i) []))) (0 : Nat)) && ((sk1_cond (L, i, if (↑(List.length L) : Int) < b then (↑(List.length L) : Int) else b, layG L i) ((0 : Int), Prod.snd (Prod.snd (sk0_g (L, i, b, if (↑(List.length L) : Int) < t then (↑(List.length L) : Int) else t, layG L i) ((0 : Int), opR (2 : Int) (layG L i) []))))) && ((Nat.beq (Prod.fst (sk1_g (L, i, if (↑(List.length L) : Int) < b then (↑(List.length L) : Int) else b, layG L i) ((0 : Int), Prod.snd (Prod.snd (sk0_g (L, i, b, if (↑(List.length L) : Int) < t then (↑(List.length L) : Int) else t, layG L i) ((0 : Int), opR (2 : Int) (layG L i) [])))))) (0 : Nat)) && (szG (layG L i) && szG (Prod.snd (Prod.snd (sk1_g (L, i, if (↑(List.length L) : Int) < b then (↑(List.length L) : Int) else b, layG L i) ((0 : Int), Prod.snd (Prod.snd (sk0_g (L, i, b, if (↑(List.length L) : Int) < t then (↑(List.length L) : Int) else t, layG L i) ((0 : Int), opR (2 : Int) (layG L i) []))))))))))))))) (.ret (.tup [(true, [.d false false (.prod (.int .i64) (.list (.prod (.int .i64) (.int .i64)))) (opR (0 : Int) (layG L i) (Prod.snd (Prod.snd (sk1_g (L, i, if (↑(List.length L) : Int) < b then (↑(List.length L) : Int) else b, layG L i) ((0 : Int), Prod.snd (Prod.snd (sk0_g (L, i, b, if (↑(List.length L) : Int) < t then (↑(List.length L) : Int) else t, layG L i) ((0 : Int), opR (2 : Int) (layG L i) []))))))))]), (true, [.d false false (.prod (.int .i64) (.list (.prod (.int .i64) (.int .i64)))) (Prod.snd (Prod.snd (sk1_g (L, i, if (↑(List.length L) : Int) < b then (↑(List.length L) : Int) else b, layG L i) ((0 : Int), Prod.snd (Prod.snd (sk0_g (L, i, b, if (↑(List.length L) : Int) < t then (↑(List.length L) : Int) else t, layG L i) ((0 : Int), opR (2 : Int) (layG L i) [])))))))])])) (.bad 116) : Tr AV).val = some (.tup [(true, [.d false false (.prod (.int .i64) (.list (.prod (.int .i64) (.int .i64)))) (skF L i t b)]), (true, [.d false false (.prod (.int .i64) (.list (.prod (.int .i64) (.int .i64)))) (skS L i t b)])]) := by
  obtain ⟨K, rfl⟩ : ∃ K : List Rg, K = L := ⟨L, rfl⟩
  have hz : szL K = true := hc
  have hn := szL_len hz
  have m1 : (if (K.length : Int) < t then (K.length : Int) else t) = min t (K.length : Int) := ite_min _ _
  have m2 : (if (K.length : Int) < b then (K.length : Int) else b) = min b (K.length : Int) := ite_min _ _
  obtain ⟨v1, v2⟩ := sk0_run (L := K) (i := i) (b := b) (o := layG K i) hz (layG_val K i) (min t (K.length : Int)) (by omega)
  obtain ⟨w1, w2⟩ := sk1_run (L := K) (i := i) (o := layG K i) hz (foldG_val (f := fun k => layG K (IntKind.wrap .i64 (IntKind.wrap .i64 (i + (1 : Int)) + (k : Int)))) (layG_val K i) (skN K t)) (min b (K.length : Int)) (by omega)
  have e : foldG (fun k => layG K (IntKind.wrap .i64 (IntKind.wrap .i64 (i - (1 : Int)) - (k : Int)))) (min b (K.length : Int)).toNat (foldG (fun k => layG K (IntKind.wrap .i64 (IntKind.wrap .i64 (i + (1 : Int)) + (k : Int)))) (skN K t) (layG K i)) = skS K i t b := sk_two hz
  have e0 : foldG (fun k => layG K (IntKind.wrap .i64 (IntKind.wrap .i64 (i + (1 : Int)) + (k : Int)))) (min t (K.length : Int)).toNat (layG K i) = foldG (fun k => layG K (IntKind.wrap .i64 (IntKind.wrap .i64 (i + (1 : Int)) + (k : Int)))) (skN K t) (layG K i) := rfl
  have s1 := val_sz (layG_val K i)
  have s2 := val_sz (skS_val K i t b)
  unfold skF
  show cond _ _ _ = _
  simp only [hz, m1, m2, op2_nil (layG_val K i), v1, v2, e0, w1, w2, e, s1, s2, sz_nil, Nat.beq, Bool.and_self, cond_true, Tr.val]
noncomputable def skc_g : List AV → Option (Tr AV)
  | [.one (.d _ _ (.list (.prod (.int .i64) (.list (.prod (.int .i64) (.int .i64))))) L), .one (.v _ (.int .i64 i)), .one (.v _ (.int .i64 t)), .one (.v _ (.int .i64 b))] => some (.br (szL L) (.ret (.tup [(true, [.d false false (.prod (.int .i64) (.list (.prod (.int .i64) (.int .i64)))) (skF L i t b)]), (true, [.d false false (.prod (.int .i64) (.list (.prod (.int .i64) (.int .i64)))) (skS L i t b)])])) (.bad 900))
  | _ => none
set_option maxHeartbeats 4000000 in
theorem skc_ok : FunOK Try.prog 40 skc_g := by
  refine fun_ok (by kernel_rfl) (rgE_S51_ok) (rgE_L53_ok) 9 (On := (opens [])) (fun args t h => ?_)
  unfold skc_g at h
  split at h
  · rename_i _ _ L _ i _ t _ b
    simp only [Option.some.injEq] at h
    subst h
    refine ⟨[.one (.d false false (.list (.prod (.int .i64) (.list (.prod (.int .i64) (.int .i64))))) L), .one (.v false (.int .i64 i)), .one (.v false (.int .i64 t)), .one (.v false (.int .i64 b))], rfl, fun fr w us h => h, fun r hr => ?_⟩
    obtain ⟨hc, hr⟩ := br_bad hr
    simp only [Tr.val, Option.some.injEq] at hr
    subst hr
    rw [skc_tree]
    exact skc_val L i t b hc
  · cases h
noncomputable def rgE_S54 : Sums := addS 40 skc_g rgE_S51
theorem rgE_S54_ok : SumOK Try.prog rgE_S54 := addS_ok (skc_ok) (rgE_S51_ok)
def gw : Rg := [((0 : Int), [((0 : Int), (3 : Int))])]
theorem gw_val : valG gw := ⟨by decide, ⟨by decide, by decide, by decide, ⟨by decide, by decide, trivial⟩, by decide⟩, trivial⟩
theorem gw_lay {i : Int} (h0 : 0 ≤ i) (h1 : i < 3) : layG [gw, gw, gw] i = gw := by
  rcases (show i = 0 ∨ i = 1 ∨ i = 2 by omega) with rfl | rfl | rfl <;>
  · show (bif valGB gw then gw else []) = gw
    rw [valGB_t gw_val]; rfl
theorem gw_out {i : Int} (h : i < 0 ∨ 3 ≤ i) : layG [gw, gw, gw] i = [] := layG_out (L := [gw, gw, gw]) h
theorem gw_S (i : Int) : skS [gw, gw, gw] i 1 1 = opR 1 (opR 1 (layG [gw, gw, gw] i) (layG [gw, gw, gw] (i + 1 + 0))) (layG [gw, gw, gw] (i - 1 - 0)) := rfl
theorem gw_S1 : skS [gw, gw, gw] 1 1 1 = gw := by
  rw [gw_S, gw_lay (by decide) (by decide), gw_lay (by decide) (by decide), gw_lay (by decide) (by decide), op1_self gw_val, op1_self gw_val]
theorem gw_S2 : skS [gw, gw, gw] 2 1 1 = [] := by
  rw [gw_S, gw_out (i := 2 + 1 + 0) (by decide), op1_r, op1_nil]
theorem gw_F1 : skF [gw, gw, gw] 1 1 1 = [] := by
  unfold skF
  rw [gw_S1, gw_lay (by decide) (by decide), op0_self gw_val]
theorem gw_F2 : skF [gw, gw, gw] 2 1 1 = gw := by
  unfold skF
  rw [gw_S2, gw_lay (by decide) (by decide), op0_r gw_val]
set_option maxRecDepth 100000 in
theorem aw28_tree : evalF Try.prog rgE_S54 (opens []) rgE_L53 9 39 [] = .br (((true) && ((true) && (bif (↑(List.length (skF [[((0 : Int), [((0 : Int), (3 : Int))])], [((0 : Int), [((0 : Int), (3 : Int))])], [((0 : Int), [((0 : Int), (3 : Int))])]] (1 : Int) (1 : Int) (1 : Int))) : Int) == (0 : Int) then ((szG (skS [[((0 : Int), [((0 : Int), (3 : Int))])], [((0 : Int), [((0 : Int), (3 : Int))])], [((0 : Int), [((0 : Int), (3 : Int))])]] (1 : Int) (1 : Int) (1 : Int))) && (bif eqRg (skS [[((0 : Int), [((0 : Int), (3 : Int))])], [((0 : Int), [((0 : Int), (3 : Int))])], [((0 : Int), [((0 : Int), (3 : Int))])]] (1 : Int) (1 : Int) (1 : Int)) [((0 : Int), [((0 : Int), (3 : Int))])] then (szG (skF [[((0 : Int), [((0 : Int), (3 : Int))])], [((0 : Int), [((0 : Int), (3 : Int))])], [((0 : Int), [((0 : Int), (3 : Int))])]] (2 : Int) (1 : Int) (1 : Int))) else true)) else true)))) (.ret (.one (.v false (.bool (bif (↑(List.length (skF [[((0 : Int), [((0 : Int), (3 : Int))])], [((0 : Int), [((0 : Int), (3 : Int))])], [((0 : Int), [((0 : Int), (3 : Int))])]] (1 : Int) (1 : Int) (1 : Int))) : Int) == (0 : Int) then bif eqRg (skS [[((0 : Int), [((0 : Int), (3 : Int))])], [((0 : Int), [((0 : Int), (3 : Int))])], [((0 : Int), [((0 : Int), (3 : Int))])]] (1 : Int) (1 : Int) (1 : Int)) [((0 : Int), [((0 : Int), (3 : Int))])] then bif eqRg (skF [[((0 : Int), [((0 : Int), (3 : Int))])], [((0 : Int), [((0 : Int), (3 : Int))])], [((0 : Int), [((0 : Int), (3 : Int))])]] (2 : Int) (1 : Int) (1 : Int)) [((0 : Int), [((0 : Int), (3 : Int))])] then (↑(List.length (skS [[((0 : Int), [((0 : Int), (3 : Int))])], [((0 : Int), [((0 : Int), (3 : Int))])], [((0 : Int), [((0 : Int), (3 : Int))])]] (2 : Int) (1 : Int) (1 : Int))) : Int) == (0 : Int) else false else false else false))))) (.bad 116) := by kernel_rfl
theorem aw28_val : (match (evalF Try.prog rgE_S54 (opens []) rgE_L53 9 39 []).val with | some (.one (.v _ (.bool true))) => true | _ => false) = true := by
  rw [aw28_tree]
  have f1 := gw_F1
  have f2 := gw_F2
  have s1 := gw_S1
  have s2 := gw_S2
  have z : szG gw = true := rfl
  have q : eqRg gw gw = true := decide_eq_true rfl
  unfold gw at f1 f2 s1 s2 z q
  simp only [f1, f2, s1, s2, sz_nil, z, q, List.length_nil, Bool.and_self, Bool.cond_self, cond_true, Tr.val]
  rfl
noncomputable def rgE_S55 : Sums := addS 39 gTrue rgE_S54
set_option maxRecDepth 100000 in
theorem rgE_S55_ok : SumOK Try.prog rgE_S55 := addS_ok (gTrueV_ok (by kernel_rfl) (rgE_S54_ok) (rgE_L53_ok) aw28_val) (rgE_S54_ok)
abbrev sm8_U : Type := (Ty.list (.list (.prod (.int .i64) (.list (.prod (.int .i64) (.int .i64)))))).den
noncomputable def sm8_St (u : sm8_U) (v : va_V) : Stt := ⟨[.one (.d false false (.list (.prod (.int .i64) (.list (.prod (.int .i64) (.int .i64))))) u), .one .junk, .one (.v false (.bool v.1)), .one (.v false (.int .i64 v.2)), .one .junk, .one .junk, .one .junk, .one .junk, .one .junk, .one .junk, .one .junk, .one .junk, .one .junk, .one .junk, .one .junk, .one .junk, .one .junk, .one .junk, .one .junk], [], 1005⟩
noncomputable def sm8_step (u : sm8_U) (v : va_V) : Tr (va_V ⊕ (Nat × va_V)) :=
  match u, v with
  | q0, (q1, q2) => .br (decide (q2 < (↑(List.length q0) : Int))) (.br (decide ((0 : Int) ≤ q2) && decide (q2 < (↑(List.length q0) : Int))) (.br (!smG (el_lilii q0 q2)) (.ret (.inr (0, (false, q2)))) (.ret (.inl (q1, IntKind.wrap .i64 (q2 + (1 : Int)))))) (.bad 29)) (.ret (.inr (1, (q1, q2))))
set_option maxRecDepth 100000 in
set_option maxHeartbeats 4000000 in
theorem sm8_step_eq : ∀ (u : sm8_U) (v : va_V), (evalC Try.prog (evalB Try.prog rgE_S55 (opens []) rgE_L53 7).1 (evalB Try.prog rgE_S55 (opens []) rgE_L53 7).2 (opens []) (rgE_L53 31) 100000 (0 :: [0, 1, 0, 1, 1]) (loopOf (bodyOf Try.prog 31) [1, 1, 0, 1, 0]) (sm8_St u v) []).bind (finF [1, 4, 5, 6, 7, 8, 9, 10, 11, 12, 13, 14, 15, 16, 17, 18] [] [] [] 1005) = (sm8_step u v).bind (outA (sm8_St u) [.ret, .exit 0]) := by
  rintro q0 ⟨q1, q2⟩
  kernel_rfl
noncomputable def sm8_rd (b : Bool) (o0 : Option AV) (o2 : Option AV) (o3 : Option AV) (own : Own) : Option (sm8_U × va_V) := zrT b <| zrO o0 fun za1 => zrA1 za1 fun zc2 => zrD (.list (.prod (.int .i64) (.list (.prod (.int .i64) (.int .i64))))) zc2 fun q0 => zrO o2 fun za3 => zrA1 za3 fun zc4 => zrB zc4 fun q1 => zrO o3 fun za5 => zrA1 za5 fun zc6 => zrI .i64 zc6 fun q2 => zrN own <| some (q0, (q1, q2))
noncomputable def sm8_can (st : Stt) : Stt := canA [1, 4, 5, 6, 7, 8, 9, 10, 11, 12, 13, 14, 15, 16, 17, 18] [] [] [] 1005 st
noncomputable def sm8_cok (st : Stt) : Bool := canAok [1, 4, 5, 6, 7, 8, 9, 10, 11, 12, 13, 14, 15, 16, 17, 18] [] [] [] 1005 st
noncomputable def sm8_read (st : Stt) : Option (sm8_U × va_V) := sm8_rd (sm8_cok st && (staysA [] [] st.own && juAll [1, 4, 5, 6, 7, 8, 9, 10, 11, 12, 13, 14, 15, 16, 17, 18] (sm8_can st).tm 19)) (sm8_can st).tm[0]? (sm8_can st).tm[2]? (sm8_can st).tm[3]? (sm8_can st).own
set_option maxRecDepth 100000 in
set_option maxHeartbeats 4000000 in
theorem sm8_rd_ok {b : Bool} {tm : List AV} {own : Own} {u : sm8_U} {v : va_V} (hj : b = true → juAll [1, 4, 5, 6, 7, 8, 9, 10, 11, 12, 13, 14, 15, 16, 17, 18] tm 19 = true) (h : sm8_rd b tm[0]? tm[2]? tm[3]? own = some (u, v)) : b = true ∧ tm = (sm8_St u v).tm ∧ own = (sm8_St u v).own := by
  unfold sm8_rd at h
  obtain ⟨rfl, h0⟩ := zrT_some h
  obtain ⟨za1, e0, h1⟩ := zrO_some h0
  obtain ⟨zc2, rfl, h2⟩ := zrA1_some h1
  obtain ⟨q0, rfl, h3⟩ := zrD_some h2
  obtain ⟨za3, e2, h4⟩ := zrO_some h3
  obtain ⟨zc4, rfl, h5⟩ := zrA1_some h4
  obtain ⟨q1, rfl, h6⟩ := zrB_some h5
  obtain ⟨za5, e3, h7⟩ := zrO_some h6
  obtain ⟨zc6, rfl, h8⟩ := zrA1_some h7
  obtain ⟨q2, rfl, h9⟩ := zrI_some h8
  obtain ⟨rfl, h10⟩ := zrN_some h9
  have h := Option.some.inj h10
  have hu := congrArg Prod.fst h
  have hv := congrArg Prod.snd h
  dsimp only at hu hv
  subst hu
  subst hv
  exact ⟨rfl, (tm_fill (hj rfl) (Lv := [(0, .one (.d false false (.list (.prod (.int .i64) (.list (.prod (.int .i64) (.int .i64))))) q0)), (2, .one (.v false (.bool q1))), (3, .one (.v false (.int .i64 q2)))]) (by kernel_rfl) ⟨e0, e2, e3, trivial⟩).trans (by kernel_rfl), rfl⟩
theorem sm8_read_ok (st : Stt) (u : sm8_U) (v : va_V) (h : sm8_read st = some (u, v)) : sm8_cok st = true ∧ staysA [] [] st.own = true ∧ sm8_can st = sm8_St u v := by
  obtain ⟨h1, h2, h3⟩ := sm8_rd_ok (fun hb => by rw [Bool.and_eq_true, Bool.and_eq_true] at hb; exact hb.2.2) h
  rw [Bool.and_eq_true, Bool.and_eq_true] at h1
  refine ⟨h1.1, h1.2.1, ?_⟩
  have e : sm8_can st = ⟨(sm8_can st).tm, (sm8_can st).own, 1005⟩ := by kernel_rfl
  rw [e, h2, h3]
  rfl
noncomputable def sm8_cond (u : sm8_U) (v : va_V) : Bool := runC (sm8_step u) v
noncomputable def sm8_g (u : sm8_U) (v : va_V) : Nat × va_V := runG (sm8_step u) v
theorem sm8_hg : ∀ (u : sm8_U) (v : va_V), sm8_cond u v = true → loopN (sm8_step u) ((fun u v => runF (sm8_step u) v) u v) v = some (sm8_g u v) := by
  exact fun u v h => run_hg h
noncomputable def sm8_m (st : Stt) : Option (Tr (Ex × Stt)) := sumM sm8_read sm8_cond sm8_St sm8_g [(0, .ret), (1, .exit 0)] st
noncomputable def rgE_L56 : FuncId → Loops := addL 31 [0, 1, 0, 1, 1] sm8_m rgE_L53
set_option maxRecDepth 100000 in
set_option maxHeartbeats 4000000 in
theorem rgE_L56_ok : LoopsOK Try.prog rgE_L56 :=
  loop_sumF (body := (bodyOf Try.prog 31)) (c := (loopOf (bodyOf Try.prog 31) [1, 1, 0, 1, 0])) (kinds := [.ret, .exit 0]) (allow := [(0, .ret), (1, .exit 0)]) (St := sm8_St) (step := sm8_step) (W := [1, 4, 5, 6, 7, 8, 9, 10, 11, 12, 13, 14, 15, 16, 17, 18]) (As := []) (ks := []) (dd := []) (nx := 1005) (n := 100000) (g := sm8_g) (cond := sm8_cond) (fuel := (fun u v => runF (sm8_step u) v)) (read := sm8_read) (by kernel_rfl) (rgE_S55_ok) (rgE_L53_ok) 7 ⟨Try.f31, by kernel_rfl, by kernel_rfl⟩ (by kernel_rfl) (by kernel_rfl) (by kernel_rfl) sm8_step_eq sm8_hg sm8_read_ok
noncomputable def smL (L : List Rg) : Bool := decide (L.length ≤ 12) && L.all smG
theorem el_l {L : List Rg} {i : Nat} (h : i < L.length) : el_lilii L (i : Int) = L[i] := elm_lt (t := .list (.prod (.int .i64) (.list (.prod (.int .i64) (.int .i64))))) h
theorem sm8_run {L : List Rg} (hn : L.length ≤ 12) : sm8_cond L (false, 0) = true ∧ ((L.all smG = true ∧ sm8_g L (false, 0) = (1, (false, (L.length : Int)))) ∨ (L.all smG = false ∧ ∃ j : Nat, sm8_g L (false, 0) = (0, (false, (j : Int))))) := by
  obtain ⟨h1, h2⟩ := run_all (step := sm8_step L) (St := fun i => (false, (i : Int))) (Lv := fun i => (0, (false, (i : Int)))) (t := (1, (false, (L.length : Int)))) (l := L) (p := smG) (fun i hi => by
    simp only [sm8_step, Tr.val, lt_t hi, nn_t, el_l hi, wi1 hi (show (L.length : Int) ≤ 9223372036854775806 by omega), Bool.and_self, cond_true]
    cases smG L[i] <;> rfl) (by simp only [sm8_step, Tr.val, Int.lt_irrefl, decide_false, cond_false])
  refine ⟨h1, ?_⟩
  rcases h2 with ⟨h, h3⟩ | ⟨h, j, _, _, _, h4⟩
  · exact .inl ⟨h, h3⟩
  · exact .inr ⟨h, j, h4⟩
set_option maxRecDepth 100000 in
theorem sm8c_tree (L : (Ty.list (.list (.prod (.int .i64) (.list (.prod (.int .i64) (.int .i64)))))).den) : evalF Try.prog rgE_S55 (opens []) rgE_L56 9 31 [.one (.d false false (.list (.prod (.int .i64) (.list (.prod (.int .i64) (.int .i64))))) L)] = .br ((bif decide ((↑(List.length L) : Int) > (12 : Int)) then true else ((sm8_cond L (false, (0 : Int))) && (bif Nat.beq (Prod.fst (sm8_g L (false, (0 : Int)))) (0 : Nat) then true else (Nat.beq (Prod.fst (sm8_g L (false, (0 : Int)))) (1 : Nat)))))) (.ret (.one (.v false (.bool (bif decide ((↑(List.length L) : Int) > (12 : Int)) then false else bif Nat.beq (Prod.fst (sm8_g L (false, (0 : Int)))) (0 : Nat) then Prod.fst (Prod.snd (sm8_g L (false, (0 : Int)))) else true))))) (.bad 116) := by kernel_rfl
set_option maxHeartbeats 4000000 in
theorem sm8c_val (L : (Ty.list (.list (.prod (.int .i64) (.list (.prod (.int .i64) (.int .i64)))))).den) : (.br ((bif decide ((↑(List.length L) : Int) > (12 : Int)) then true else ((sm8_cond L (false, (0 : Int))) && (bif Nat.beq (Prod.fst (sm8_g L (false, (0 : Int)))) (0 : Nat) then true else (Nat.beq (Prod.fst (sm8_g L (false, (0 : Int)))) (1 : Nat)))))) (.ret (.one (.v false (.bool (bif decide ((↑(List.length L) : Int) > (12 : Int)) then false else bif Nat.beq (Prod.fst (sm8_g L (false, (0 : Int)))) (0 : Nat) then Prod.fst (Prod.snd (sm8_g L (false, (0 : Int)))) else true))))) (.bad 116) : Tr AV).val = some (.one (.v false (.bool (smL L)))) := by
  obtain ⟨K, rfl⟩ : ∃ K : List Rg, K = L := ⟨L, rfl⟩
  unfold smL
  show cond _ _ _ = _
  by_cases hl : K.length ≤ 12
  · obtain ⟨v1, v2⟩ := sm8_run hl
    have b : decide ((K.length : Int) > (12 : Int)) = false := decide_eq_false (by omega)
    rcases v2 with ⟨h, g⟩ | ⟨h, j, g⟩
    · simp only [b, v1, g, h, decide_eq_true hl, Nat.beq, Bool.and_self, cond_true, cond_false, Tr.val]
    · simp only [b, v1, g, h, decide_eq_true hl, Nat.beq, Bool.and_self, Bool.and_false, cond_true, cond_false, Tr.val]
  · have b : decide ((K.length : Int) > (12 : Int)) = true := decide_eq_true (by omega)
    simp only [b, decide_eq_false hl, Bool.false_and, cond_true, Tr.val]
noncomputable def sm8c_g : List AV → Option (Tr AV)
  | [.one (.d _ _ (.list (.prod (.int .i64) (.list (.prod (.int .i64) (.int .i64))))) L)] => some (.ret (.one (.v false (.bool (smL L)))))
  | _ => none
set_option maxHeartbeats 4000000 in
theorem sm8c_ok : FunOK Try.prog 31 sm8c_g := by
  refine fun_ok (by kernel_rfl) (rgE_S55_ok) (rgE_L56_ok) 9 (On := (opens [])) (fun args t h => ?_)
  unfold sm8c_g at h
  split at h
  · rename_i _ _ L
    simp only [Option.some.injEq] at h
    subst h
    refine ⟨[.one (.d false false (.list (.prod (.int .i64) (.list (.prod (.int .i64) (.int .i64))))) L)], rfl, fun fr w us h => h, fun r hr => ?_⟩
    simp only [Tr.val, Option.some.injEq] at hr
    subst hr
    rw [sm8c_tree]
    exact sm8c_val L
  · cases h
noncomputable def rgE_S57 : Sums := addS 31 sm8c_g rgE_S55
theorem rgE_S57_ok : SumOK Try.prog rgE_S57 := addS_ok (sm8c_ok) (rgE_S55_ok)
noncomputable def rgE_S58 : Sums := rgE_S57
theorem rgE_S58_ok : SumOK Try.prog rgE_S58 := rgE_S57_ok
end Go.Proofs.Ytacgchandefjgaa
