/-
  Layer 28: SkinResults.
-/
import Derived.Test.YtfdamfapnpgmjaaProg
import Derived.Test.YtfdamfapnpgmjaaFvX
import Derived.Test.YtfdamfapnpgmjaaFvZ
import Derived.Test.YtfdamfapnpgmjaaAut
import Derived.Test.YtfdamfapnpgmjaaRd
import Derived.Test.YtfdamfapnpgmjaaPl
import Derived.Test.YtfdamfapnpgmjaaScn
import Derived.Test.YtfdamfapnpgmjaaRegM
import Derived.Test.YtfdamfapnpgmjaaRegF
import Derived.Test.YtfdamfapnpgmjaaRegS
import Derived.Test.YtfdamfapnpgmjaaRgA
import Derived.Test.YtfdamfapnpgmjaaRgB
import Derived.Test.YtfdamfapnpgmjaaRgC
import Derived.Test.YtfdamfapnpgmjaaRgD
import Derived.Test.YtfdamfapnpgmjaaRgE
import Derived.Test.YtfdamfapnpgmjaaRgF
import Derived.Test.YtfdamfapnpgmjaaRgG
namespace Go.Proofs.Ytfdamfapnpgmjaa
open Go
set_option maxRecDepth 100000 in
theorem rlac_tree (L : (Ty.list (.list (.prod (.int .i64) (.list (.prod (.int .i64) (.int .i64)))))).den) (i : Int) : evalF Try.prog rgG_S61 (opens []) rgG_L58 9 26 [.one (.d false false (.list (.prod (.int .i64) (.list (.prod (.int .i64) (.int .i64))))) L), .one (.v false (.int .i64 i))] = .br ((bif bif decide (i < (0 : Int)) then true else decide (i ≥ (↑(List.length L) : Int)) then true else ((decide ((0 : Int) ≤ i) && decide (i < (↑(List.length L) : Int))) && ((szG (el_lilii L i)) && (bif !valGB (el_lilii L i) then true else ((decide ((0 : Int) ≤ i) && decide (i < (↑(List.length L) : Int))) && (szG (el_lilii L i) && szG []))))))) (.ret (.ag [.d false false (.prod (.int .i64) (.list (.prod (.int .i64) (.int .i64)))) (bif bif decide (i < (0 : Int)) then true else decide (i ≥ (↑(List.length L) : Int)) then [] else bif !valGB (el_lilii L i) then [] else opR (2 : Int) (el_lilii L i) [])])) (.bad 116) := by kernel_rfl
theorem rlac_val (L : (Ty.list (.list (.prod (.int .i64) (.list (.prod (.int .i64) (.int .i64)))))).den) (i : Int) (hc : (szL L) = true) : (.br ((bif bif decide (i < (0 : Int)) then true else decide (i ≥ (↑(List.length L) : Int)) then true else ((decide ((0 : Int) ≤ i) && decide (i < (↑(List.length L) : Int))) && ((szG (el_lilii L i)) && (bif !valGB (el_lilii L i) then true else ((decide ((0 : Int) ≤ i) && decide (i < (↑(List.length L) : Int))) && (szG (el_lilii L i) && szG []))))))) (.ret (.ag [.d false false (.prod (.int .i64) (.list (.prod (.int .i64) (.int .i64)))) (bif bif decide (i < (0 : Int)) then true else decide (i ≥ (↑(List.length L) : Int)) then [] else bif !valGB (el_lilii L i) then [] else opR (2 : Int) (el_lilii L i) [])])) (.bad 116) : Tr AV).val = some (.ag [.d false false (.prod (.int .i64) (.list (.prod (.int .i64) (.int .i64)))) (layG L i)]) := by
  obtain ⟨K, rfl⟩ : ∃ K : List Rg, K = L := ⟨L, rfl⟩
  have hz : szL K = true := hc
  have e : el_lilii K i = K.getD i.toNat [] := rfl
  have hs := szL_get hz i.toNat
  unfold layG
  show cond _ _ _ = _
  rw [e]
  by_cases h1 : i < 0
  · have d1 : decide (i < (0 : Int)) = true := decide_eq_true h1
    have d2 : decide (0 ≤ i) = false := decide_eq_false (by omega)
    simp only [d1, d2, Bool.false_and, cond_true, cond_false, Tr.val]
  · have d1 : decide (i < (0 : Int)) = false := decide_eq_false h1
    have d2 : decide (0 ≤ i) = true := decide_eq_true (by omega)
    by_cases h2 : i ≥ (K.length : Int)
    · have d3 : decide (i ≥ (K.length : Int)) = true := decide_eq_true h2
      have d4 : decide (i < (K.length : Int)) = false := decide_eq_false (by omega)
      simp only [d1, d2, d3, d4, Bool.and_false, cond_true, cond_false, Tr.val]
    · have d3 : decide (i ≥ (K.length : Int)) = false := decide_eq_false h2
      have d4 : decide (i < (K.length : Int)) = true := decide_eq_true (by omega)
      cases hv : valGB (K.getD i.toNat [])
      · simp only [d1, d2, d3, d4, hs, Bool.not_false, Bool.and_self, cond_true, cond_false, Tr.val]
      · simp only [d1, d2, d3, d4, hs, sz_nil, op2_nil (valGB_iff.1 hv), Bool.not_true, Bool.and_self, cond_true, cond_false, Tr.val]
noncomputable def rlac_g : List AV → Option (Tr AV)
  | [.one (.d _ _ (.list (.prod (.int .i64) (.list (.prod (.int .i64) (.int .i64))))) L), .one (.v _ (.int .i64 i))] => some (.br (szL L) (.ret (.ag [.d false false (.prod (.int .i64) (.list (.prod (.int .i64) (.int .i64)))) (layG L i)])) (.bad 900))
  | _ => none
set_option maxHeartbeats 4000000 in
theorem rlac_ok : FunOK Try.prog 26 rlac_g := by
  refine fun_ok (by kernel_rfl) (rgG_S61_ok) (rgG_L58_ok) 9 (On := (opens [])) (fun args t h => ?_)
  unfold rlac_g at h
  split at h
  · rename_i _ _ L _ i
    simp only [Option.some.injEq] at h
    subst h
    refine ⟨[.one (.d false false (.list (.prod (.int .i64) (.list (.prod (.int .i64) (.int .i64))))) L), .one (.v false (.int .i64 i))], rfl, fun fr w us h => h, fun r hr => ?_⟩
    obtain ⟨hc, hr⟩ := br_bad hr
    simp only [Tr.val, Option.some.injEq] at hr
    subst hr
    rw [rlac_tree]
    exact rlac_val L i hc
  · cases h
noncomputable def rgH_S51 : Sums := addS 26 rlac_g rgG_S61
theorem rgH_S51_ok : SumOK Try.prog rgH_S51 := addS_ok (rlac_ok) (rgG_S61_ok)
abbrev rk0_U : Type := (Ty.list (.list (.prod (.int .i64) (.list (.prod (.int .i64) (.int .i64)))))).den × Int × Int × Int × (Ty.list (.prod (.int .i64) (.list (.prod (.int .i64) (.int .i64))))).den
abbrev rk0_V : Type := Int × (Ty.list (.prod (.int .i64) (.list (.prod (.int .i64) (.int .i64))))).den
noncomputable def rk0_St (u : rk0_U) (v : rk0_V) : Stt := ⟨[.one (.d false false (.list (.prod (.int .i64) (.list (.prod (.int .i64) (.int .i64))))) u.1), .one (.v false (.int .i64 u.2.1)), .one (.v false (.int .i64 u.2.2.1)), .one (.v false (.int .i64 u.2.2.2.1)), .one .junk, .one .junk, .one .junk, .one .junk, .one (.p 0 0), .one (.p 1 0), .one (.p 13 0), .one (.p 16 0), .one (.v false (.int .i64 v.1)), .one .junk, .one .junk, .one .junk, .one .junk, .one .junk, .one .junk, .one .junk, .one .junk, .one .junk, .one .junk, .one .junk, .one .junk, .one .junk, .one .junk, .one .junk, .one .junk, .one .junk, .one .junk, .one .junk, .one .junk, .one .junk, .one .junk, .one .junk, .one .junk, .one .junk, .one .junk, .one .junk, .one .junk, .one .junk, .one .junk, .one .junk, .one .junk, .one .junk, .one .junk, .one .junk, .one .junk, .one .junk, .one .junk, .one .junk, .one .junk, .one .junk, .one .junk, .one .junk, .one .junk, .one .junk, .one .junk, .one .junk, .one .junk, .one .junk], [(16, .cells [.d false false (.prod (.int .i64) (.list (.prod (.int .i64) (.int .i64)))) v.2]), (13, .cells [.d false false (.prod (.int .i64) (.list (.prod (.int .i64) (.int .i64)))) u.2.2.2.2]), (1, .cells [.v false (Value.slice none (0 : Nat) (0 : Nat))]), (0, .cells [.v false (Value.slice none (0 : Nat) (0 : Nat))])], 1019⟩
noncomputable def rk0_step (u : rk0_U) (v : rk0_V) : Tr (rk0_V ⊕ (Nat × rk0_V)) :=
  match u, v with
  | (q0, q1, q2, _, _), (q4, q5) => .br (decide (q4 ≤ if (↑(List.length q0) : Int) < q2 then (↑(List.length q0) : Int) else q2)) (.br (szL q0) (.br (szG q5 && szG (layG q0 (IntKind.wrap IntKind.i64 (q1 + q4)))) (.ret (.inl (IntKind.wrap IntKind.i64 (q4 + (1 : Int)), opR (1 : Int) q5 (layG q0 (IntKind.wrap IntKind.i64 (q1 + q4)))))) (.bad 900)) (.bad 900)) (.ret (.inr (0, (q4, q5))))
set_option maxRecDepth 100000 in
set_option maxHeartbeats 4000000 in
theorem rk0_step_eq : ∀ (u : rk0_U) (v : rk0_V), (evalC Try.prog (evalB Try.prog rgH_S51 (opens []) rgG_L58 7).1 (evalB Try.prog rgH_S51 (opens []) rgG_L58 7).2 (opens []) (rgG_L58 11) 100000 (0 :: [0, 1, 0, 1, 1, 1, 1]) (loopOf (bodyOf Try.prog 11) [1, 1, 1, 1, 0, 1, 0]) (rk0_St u v) []).bind (finF [4, 5, 6, 7, 13, 14, 15, 16, 17, 18, 19, 20, 21, 22, 23, 24, 25, 26, 27, 28, 29, 30, 31, 32, 33, 34, 35, 36, 37, 38, 39, 40, 41, 42, 43, 44, 45, 46, 47, 48, 49, 50, 51, 52, 53, 54, 55, 56, 57, 58, 59, 60, 61] [] [16, 13, 1, 0] [] 1019) = (rk0_step u v).bind (outA (rk0_St u) [.exit 0]) := by
  rintro ⟨q0, q1, q2, q3, q6⟩ ⟨q4, q5⟩
  kernel_rfl
noncomputable def rk0_rd (b : Bool) (o0 : Option AV) (o1 : Option AV) (o2 : Option AV) (o3 : Option AV) (o8 : Option AV) (o9 : Option AV) (o10 : Option AV) (o11 : Option AV) (o12 : Option AV) (own : Own) : Option (rk0_U × rk0_V) := zrT b <| zrO o0 fun za1 => zrA1 za1 fun zc2 => zrD (.list (.prod (.int .i64) (.list (.prod (.int .i64) (.int .i64))))) zc2 fun q0 => zrO o1 fun za3 => zrA1 za3 fun zc4 => zrI .i64 zc4 fun q1 => zrO o2 fun za5 => zrA1 za5 fun zc6 => zrI .i64 zc6 fun q2 => zrO o3 fun za7 => zrA1 za7 fun zc8 => zrI .i64 zc8 fun q3 => zrO o8 fun za9 => zrA1 za9 fun zc10 => zrP 0 0 zc10 <| zrO o9 fun za11 => zrA1 za11 fun zc12 => zrP 1 0 zc12 <| zrO o10 fun za13 => zrA1 za13 fun zc14 => zrP 13 0 zc14 <| zrO o11 fun za15 => zrA1 za15 fun zc16 => zrP 16 0 zc16 <| zrO o12 fun za17 => zrA1 za17 fun zc18 => zrI .i64 zc18 fun q4 => zrL own fun zq19 zw20 => zrKey 16 zq19 fun zk21 => zrC zk21 fun zl22 => zrL zl22 fun zc23 zr24 => zrD (.prod (.int .i64) (.list (.prod (.int .i64) (.int .i64)))) zc23 fun q5 => zrN zr24 <| zrL zw20 fun zq25 zw26 => zrKey 13 zq25 fun zk27 => zrC zk27 fun zl28 => zrL zl28 fun zc29 zr30 => zrD (.prod (.int .i64) (.list (.prod (.int .i64) (.int .i64)))) zc29 fun q6 => zrN zr30 <| zrL zw26 fun zq31 zw32 => zrKey 1 zq31 fun zk33 => zrC zk33 fun zl34 => zrL zl34 fun zc35 zr36 => zrNil zc35 <| zrN zr36 <| zrL zw32 fun zq37 zw38 => zrKey 0 zq37 fun zk39 => zrC zk39 fun zl40 => zrL zl40 fun zc41 zr42 => zrNil zc41 <| zrN zr42 <| zrN zw38 <| some ((q0, q1, q2, q3, q6), (q4, q5))
noncomputable def rk0_can (st : Stt) : Stt := canA [4, 5, 6, 7, 13, 14, 15, 16, 17, 18, 19, 20, 21, 22, 23, 24, 25, 26, 27, 28, 29, 30, 31, 32, 33, 34, 35, 36, 37, 38, 39, 40, 41, 42, 43, 44, 45, 46, 47, 48, 49, 50, 51, 52, 53, 54, 55, 56, 57, 58, 59, 60, 61] [] [16, 13, 1, 0] [] 1019 st
noncomputable def rk0_cok (st : Stt) : Bool := canAok [4, 5, 6, 7, 13, 14, 15, 16, 17, 18, 19, 20, 21, 22, 23, 24, 25, 26, 27, 28, 29, 30, 31, 32, 33, 34, 35, 36, 37, 38, 39, 40, 41, 42, 43, 44, 45, 46, 47, 48, 49, 50, 51, 52, 53, 54, 55, 56, 57, 58, 59, 60, 61] [] [16, 13, 1, 0] [] 1019 st
noncomputable def rk0_read (st : Stt) : Option (rk0_U × rk0_V) := rk0_rd (rk0_cok st && (staysA [] [16, 13, 1, 0] st.own && juAll [4, 5, 6, 7, 13, 14, 15, 16, 17, 18, 19, 20, 21, 22, 23, 24, 25, 26, 27, 28, 29, 30, 31, 32, 33, 34, 35, 36, 37, 38, 39, 40, 41, 42, 43, 44, 45, 46, 47, 48, 49, 50, 51, 52, 53, 54, 55, 56, 57, 58, 59, 60, 61] (rk0_can st).tm 62)) (rk0_can st).tm[0]? (rk0_can st).tm[1]? (rk0_can st).tm[2]? (rk0_can st).tm[3]? (rk0_can st).tm[8]? (rk0_can st).tm[9]? (rk0_can st).tm[10]? (rk0_can st).tm[11]? (rk0_can st).tm[12]? (rk0_can st).own
set_option maxRecDepth 100000 in
set_option maxHeartbeats 4000000 in
theorem rk0_rd_ok {b : Bool} {tm : List AV} {own : Own} {u : rk0_U} {v : rk0_V} (hj : b = true → juAll [4, 5, 6, 7, 13, 14, 15, 16, 17, 18, 19, 20, 21, 22, 23, 24, 25, 26, 27, 28, 29, 30, 31, 32, 33, 34, 35, 36, 37, 38, 39, 40, 41, 42, 43, 44, 45, 46, 47, 48, 49, 50, 51, 52, 53, 54, 55, 56, 57, 58, 59, 60, 61] tm 62 = true) (h : rk0_rd b tm[0]? tm[1]? tm[2]? tm[3]? tm[8]? tm[9]? tm[10]? tm[11]? tm[12]? own = some (u, v)) : b = true ∧ tm = (rk0_St u v).tm ∧ own = (rk0_St u v).own := by
  unfold rk0_rd at h
  obtain ⟨rfl, h0⟩ := zrT_some h
  obtain ⟨za1, e0, h1⟩ := zrO_some h0
  obtain ⟨zc2, rfl, h2⟩ := zrA1_some h1
  obtain ⟨q0, rfl, h3⟩ := zrD_some h2
  obtain ⟨za3, e1, h4⟩ := zrO_some h3
  obtain ⟨zc4, rfl, h5⟩ := zrA1_some h4
  obtain ⟨q1, rfl, h6⟩ := zrI_some h5
  obtain ⟨za5, e2, h7⟩ := zrO_some h6
  obtain ⟨zc6, rfl, h8⟩ := zrA1_some h7
  obtain ⟨q2, rfl, h9⟩ := zrI_some h8
  obtain ⟨za7, e3, h10⟩ := zrO_some h9
  obtain ⟨zc8, rfl, h11⟩ := zrA1_some h10
  obtain ⟨q3, rfl, h12⟩ := zrI_some h11
  obtain ⟨za9, e8, h13⟩ := zrO_some h12
  obtain ⟨zc10, rfl, h14⟩ := zrA1_some h13
  obtain ⟨rfl, h15⟩ := zrP_some h14
  obtain ⟨za11, e9, h16⟩ := zrO_some h15
  obtain ⟨zc12, rfl, h17⟩ := zrA1_some h16
  obtain ⟨rfl, h18⟩ := zrP_some h17
  obtain ⟨za13, e10, h19⟩ := zrO_some h18
  obtain ⟨zc14, rfl, h20⟩ := zrA1_some h19
  obtain ⟨rfl, h21⟩ := zrP_some h20
  obtain ⟨za15, e11, h22⟩ := zrO_some h21
  obtain ⟨zc16, rfl, h23⟩ := zrA1_some h22
  obtain ⟨rfl, h24⟩ := zrP_some h23
  obtain ⟨za17, e12, h25⟩ := zrO_some h24
  obtain ⟨zc18, rfl, h26⟩ := zrA1_some h25
  obtain ⟨q4, rfl, h27⟩ := zrI_some h26
  obtain ⟨zq19, zw20, rfl, h28⟩ := zrL_some h27
  obtain ⟨zk21, rfl, h29⟩ := zrKey_some h28
  obtain ⟨zl22, rfl, h30⟩ := zrC_some h29
  obtain ⟨zc23, zr24, rfl, h31⟩ := zrL_some h30
  obtain ⟨q5, rfl, h32⟩ := zrD_some h31
  obtain ⟨rfl, h33⟩ := zrN_some h32
  obtain ⟨zq25, zw26, rfl, h34⟩ := zrL_some h33
  obtain ⟨zk27, rfl, h35⟩ := zrKey_some h34
  obtain ⟨zl28, rfl, h36⟩ := zrC_some h35
  obtain ⟨zc29, zr30, rfl, h37⟩ := zrL_some h36
  obtain ⟨q6, rfl, h38⟩ := zrD_some h37
  obtain ⟨rfl, h39⟩ := zrN_some h38
  obtain ⟨zq31, zw32, rfl, h40⟩ := zrL_some h39
  obtain ⟨zk33, rfl, h41⟩ := zrKey_some h40
  obtain ⟨zl34, rfl, h42⟩ := zrC_some h41
  obtain ⟨zc35, zr36, rfl, h43⟩ := zrL_some h42
  obtain ⟨rfl, h44⟩ := zrNil_some h43
  obtain ⟨rfl, h45⟩ := zrN_some h44
  obtain ⟨zq37, zw38, rfl, h46⟩ := zrL_some h45
  obtain ⟨zk39, rfl, h47⟩ := zrKey_some h46
  obtain ⟨zl40, rfl, h48⟩ := zrC_some h47
  obtain ⟨zc41, zr42, rfl, h49⟩ := zrL_some h48
  obtain ⟨rfl, h50⟩ := zrNil_some h49
  obtain ⟨rfl, h51⟩ := zrN_some h50
  obtain ⟨rfl, h52⟩ := zrN_some h51
  have h := Option.some.inj h52
  have hu := congrArg Prod.fst h
  have hv := congrArg Prod.snd h
  dsimp only at hu hv
  subst hu
  subst hv
  exact ⟨rfl, (tm_fill (hj rfl) (Lv := [(0, .one (.d false false (.list (.prod (.int .i64) (.list (.prod (.int .i64) (.int .i64))))) q0)), (1, .one (.v false (.int .i64 q1))), (2, .one (.v false (.int .i64 q2))), (3, .one (.v false (.int .i64 q3))), (8, .one (.p 0 0)), (9, .one (.p 1 0)), (10, .one (.p 13 0)), (11, .one (.p 16 0)), (12, .one (.v false (.int .i64 q4)))]) (by kernel_rfl) ⟨e0, e1, e2, e3, e8, e9, e10, e11, e12, trivial⟩).trans (by kernel_rfl), rfl⟩
theorem rk0_read_ok (st : Stt) (u : rk0_U) (v : rk0_V) (h : rk0_read st = some (u, v)) : rk0_cok st = true ∧ staysA [] [16, 13, 1, 0] st.own = true ∧ rk0_can st = rk0_St u v := by
  obtain ⟨h1, h2, h3⟩ := rk0_rd_ok (fun hb => by rw [Bool.and_eq_true, Bool.and_eq_true] at hb; exact hb.2.2) h
  rw [Bool.and_eq_true, Bool.and_eq_true] at h1
  refine ⟨h1.1, h1.2.1, ?_⟩
  have e : rk0_can st = ⟨(rk0_can st).tm, (rk0_can st).own, 1019⟩ := by kernel_rfl
  rw [e, h2, h3]
  rfl
noncomputable def rk0_cond (u : rk0_U) (v : rk0_V) : Bool := runC (rk0_step u) v
noncomputable def rk0_g (u : rk0_U) (v : rk0_V) : Nat × rk0_V := runG (rk0_step u) v
theorem rk0_hg : ∀ (u : rk0_U) (v : rk0_V), rk0_cond u v = true → loopN (rk0_step u) ((fun u v => runF (rk0_step u) v) u v) v = some (rk0_g u v) := by
  exact fun u v h => run_hg h
noncomputable def rk0_m (st : Stt) : Option (Tr (Ex × Stt)) := sumM rk0_read rk0_cond rk0_St rk0_g [(0, .exit 0)] st
noncomputable def rgH_L52 : FuncId → Loops := addL 11 [0, 1, 0, 1, 1, 1, 1] rk0_m rgG_L58
set_option maxRecDepth 100000 in
set_option maxHeartbeats 4000000 in
theorem rgH_L52_ok : LoopsOK Try.prog rgH_L52 :=
  loop_sumF (body := (bodyOf Try.prog 11)) (c := (loopOf (bodyOf Try.prog 11) [1, 1, 1, 1, 0, 1, 0])) (kinds := [.exit 0]) (allow := [(0, .exit 0)]) (St := rk0_St) (step := rk0_step) (W := [4, 5, 6, 7, 13, 14, 15, 16, 17, 18, 19, 20, 21, 22, 23, 24, 25, 26, 27, 28, 29, 30, 31, 32, 33, 34, 35, 36, 37, 38, 39, 40, 41, 42, 43, 44, 45, 46, 47, 48, 49, 50, 51, 52, 53, 54, 55, 56, 57, 58, 59, 60, 61]) (As := []) (ks := [16, 13, 1, 0]) (dd := []) (nx := 1019) (n := 100000) (g := rk0_g) (cond := rk0_cond) (fuel := (fun u v => runF (rk0_step u) v)) (read := rk0_read) (by kernel_rfl) (rgH_S51_ok) (rgG_L58_ok) 7 ⟨Try.f11, by kernel_rfl, by kernel_rfl⟩ (by kernel_rfl) (by kernel_rfl) (by kernel_rfl) rk0_step_eq rk0_hg rk0_read_ok
abbrev rk1_U : Type := (Ty.list (.list (.prod (.int .i64) (.list (.prod (.int .i64) (.int .i64)))))).den × Int × Int × (Ty.list (.prod (.int .i64) (.list (.prod (.int .i64) (.int .i64))))).den
abbrev rk1_V : Type := Int × (Ty.list (.prod (.int .i64) (.list (.prod (.int .i64) (.int .i64))))).den
noncomputable def rk1_St (u : rk1_U) (v : rk1_V) : Stt := ⟨[.one (.d false false (.list (.prod (.int .i64) (.list (.prod (.int .i64) (.int .i64))))) u.1), .one (.v false (.int .i64 u.2.1)), .one .junk, .one (.v false (.int .i64 u.2.2.1)), .one .junk, .one .junk, .one .junk, .one .junk, .one (.p 0 0), .one (.p 1 0), .one (.p 13 0), .one (.p 16 0), .one .junk, .one (.v false (.int .i64 v.1)), .one .junk, .one .junk, .one .junk, .one .junk, .one .junk, .one .junk, .one .junk, .one .junk, .one .junk, .one .junk, .one .junk, .one .junk, .one .junk, .one .junk, .one .junk, .one .junk, .one .junk, .one .junk, .one .junk, .one .junk, .one .junk, .one .junk, .one .junk, .one .junk, .one .junk, .one .junk, .one .junk, .one .junk, .one .junk, .one .junk, .one .junk, .one .junk, .one .junk, .one .junk, .one .junk, .one .junk, .one .junk, .one .junk, .one .junk, .one .junk, .one .junk, .one .junk, .one .junk, .one .junk, .one .junk, .one .junk, .one .junk, .one .junk], [(16, .cells [.d false false (.prod (.int .i64) (.list (.prod (.int .i64) (.int .i64)))) v.2]), (13, .cells [.d false false (.prod (.int .i64) (.list (.prod (.int .i64) (.int .i64)))) u.2.2.2]), (1, .cells [.v false (Value.slice none (0 : Nat) (0 : Nat))]), (0, .cells [.v false (Value.slice none (0 : Nat) (0 : Nat))])], 2020⟩
noncomputable def rk1_step (u : rk1_U) (v : rk1_V) : Tr (rk1_V ⊕ (Nat × rk1_V)) :=
  match u, v with
  | (q0, q1, q2, _), (q3, q4) => .br (decide (q3 ≤ if (↑(List.length q0) : Int) < q2 then (↑(List.length q0) : Int) else q2)) (.br (szL q0) (.br (szG q4 && szG (layG q0 (IntKind.wrap IntKind.i64 (q1 - q3)))) (.ret (.inl (IntKind.wrap IntKind.i64 (q3 + (1 : Int)), opR (1 : Int) q4 (layG q0 (IntKind.wrap IntKind.i64 (q1 - q3)))))) (.bad 900)) (.bad 900)) (.ret (.inr (0, (q3, q4))))
set_option maxRecDepth 100000 in
set_option maxHeartbeats 4000000 in
theorem rk1_step_eq : ∀ (u : rk1_U) (v : rk1_V), (evalC Try.prog (evalB Try.prog rgH_S51 (opens []) rgH_L52 7).1 (evalB Try.prog rgH_S51 (opens []) rgH_L52 7).2 (opens []) (rgH_L52 11) 100000 (0 :: [0, 1, 0, 1, 1, 1, 1, 1]) (loopOf (bodyOf Try.prog 11) [1, 1, 1, 1, 1, 0, 1, 0]) (rk1_St u v) []).bind (finF [2, 4, 5, 6, 7, 12, 14, 15, 16, 17, 18, 19, 20, 21, 22, 23, 24, 25, 26, 27, 28, 29, 30, 31, 32, 33, 34, 35, 36, 37, 38, 39, 40, 41, 42, 43, 44, 45, 46, 47, 48, 49, 50, 51, 52, 53, 54, 55, 56, 57, 58, 59, 60, 61] [] [16, 13, 1, 0] [] 2020) = (rk1_step u v).bind (outA (rk1_St u) [.exit 2]) := by
  rintro ⟨q0, q1, q2, q5⟩ ⟨q3, q4⟩
  kernel_rfl
noncomputable def rk1_rd (b : Bool) (o0 : Option AV) (o1 : Option AV) (o3 : Option AV) (o8 : Option AV) (o9 : Option AV) (o10 : Option AV) (o11 : Option AV) (o13 : Option AV) (own : Own) : Option (rk1_U × rk1_V) := zrT b <| zrO o0 fun za1 => zrA1 za1 fun zc2 => zrD (.list (.prod (.int .i64) (.list (.prod (.int .i64) (.int .i64))))) zc2 fun q0 => zrO o1 fun za3 => zrA1 za3 fun zc4 => zrI .i64 zc4 fun q1 => zrO o3 fun za5 => zrA1 za5 fun zc6 => zrI .i64 zc6 fun q2 => zrO o8 fun za7 => zrA1 za7 fun zc8 => zrP 0 0 zc8 <| zrO o9 fun za9 => zrA1 za9 fun zc10 => zrP 1 0 zc10 <| zrO o10 fun za11 => zrA1 za11 fun zc12 => zrP 13 0 zc12 <| zrO o11 fun za13 => zrA1 za13 fun zc14 => zrP 16 0 zc14 <| zrO o13 fun za15 => zrA1 za15 fun zc16 => zrI .i64 zc16 fun q3 => zrL own fun zq17 zw18 => zrKey 16 zq17 fun zk19 => zrC zk19 fun zl20 => zrL zl20 fun zc21 zr22 => zrD (.prod (.int .i64) (.list (.prod (.int .i64) (.int .i64)))) zc21 fun q4 => zrN zr22 <| zrL zw18 fun zq23 zw24 => zrKey 13 zq23 fun zk25 => zrC zk25 fun zl26 => zrL zl26 fun zc27 zr28 => zrD (.prod (.int .i64) (.list (.prod (.int .i64) (.int .i64)))) zc27 fun q5 => zrN zr28 <| zrL zw24 fun zq29 zw30 => zrKey 1 zq29 fun zk31 => zrC zk31 fun zl32 => zrL zl32 fun zc33 zr34 => zrNil zc33 <| zrN zr34 <| zrL zw30 fun zq35 zw36 => zrKey 0 zq35 fun zk37 => zrC zk37 fun zl38 => zrL zl38 fun zc39 zr40 => zrNil zc39 <| zrN zr40 <| zrN zw36 <| some ((q0, q1, q2, q5), (q3, q4))
noncomputable def rk1_can (st : Stt) : Stt := canA [2, 4, 5, 6, 7, 12, 14, 15, 16, 17, 18, 19, 20, 21, 22, 23, 24, 25, 26, 27, 28, 29, 30, 31, 32, 33, 34, 35, 36, 37, 38, 39, 40, 41, 42, 43, 44, 45, 46, 47, 48, 49, 50, 51, 52, 53, 54, 55, 56, 57, 58, 59, 60, 61] [] [16, 13, 1, 0] [] 2020 st
noncomputable def rk1_cok (st : Stt) : Bool := canAok [2, 4, 5, 6, 7, 12, 14, 15, 16, 17, 18, 19, 20, 21, 22, 23, 24, 25, 26, 27, 28, 29, 30, 31, 32, 33, 34, 35, 36, 37, 38, 39, 40, 41, 42, 43, 44, 45, 46, 47, 48, 49, 50, 51, 52, 53, 54, 55, 56, 57, 58, 59, 60, 61] [] [16, 13, 1, 0] [] 2020 st
noncomputable def rk1_read (st : Stt) : Option (rk1_U × rk1_V) := rk1_rd (rk1_cok st && (staysA [] [16, 13, 1, 0] st.own && juAll [2, 4, 5, 6, 7, 12, 14, 15, 16, 17, 18, 19, 20, 21, 22, 23, 24, 25, 26, 27, 28, 29, 30, 31, 32, 33, 34, 35, 36, 37, 38, 39, 40, 41, 42, 43, 44, 45, 46, 47, 48, 49, 50, 51, 52, 53, 54, 55, 56, 57, 58, 59, 60, 61] (rk1_can st).tm 62)) (rk1_can st).tm[0]? (rk1_can st).tm[1]? (rk1_can st).tm[3]? (rk1_can st).tm[8]? (rk1_can st).tm[9]? (rk1_can st).tm[10]? (rk1_can st).tm[11]? (rk1_can st).tm[13]? (rk1_can st).own
set_option maxRecDepth 100000 in
set_option maxHeartbeats 4000000 in
theorem rk1_rd_ok {b : Bool} {tm : List AV} {own : Own} {u : rk1_U} {v : rk1_V} (hj : b = true → juAll [2, 4, 5, 6, 7, 12, 14, 15, 16, 17, 18, 19, 20, 21, 22, 23, 24, 25, 26, 27, 28, 29, 30, 31, 32, 33, 34, 35, 36, 37, 38, 39, 40, 41, 42, 43, 44, 45, 46, 47, 48, 49, 50, 51, 52, 53, 54, 55, 56, 57, 58, 59, 60, 61] tm 62 = true) (h : rk1_rd b tm[0]? tm[1]? tm[3]? tm[8]? tm[9]? tm[10]? tm[11]? tm[13]? own = some (u, v)) : b = true ∧ tm = (rk1_St u v).tm ∧ own = (rk1_St u v).own := by
  unfold rk1_rd at h
  obtain ⟨rfl, h0⟩ := zrT_some h
  obtain ⟨za1, e0, h1⟩ := zrO_some h0
  obtain ⟨zc2, rfl, h2⟩ := zrA1_some h1
  obtain ⟨q0, rfl, h3⟩ := zrD_some h2
  obtain ⟨za3, e1, h4⟩ := zrO_some h3
  obtain ⟨zc4, rfl, h5⟩ := zrA1_some h4
  obtain ⟨q1, rfl, h6⟩ := zrI_some h5
  obtain ⟨za5, e3, h7⟩ := zrO_some h6
  obtain ⟨zc6, rfl, h8⟩ := zrA1_some h7
  obtain ⟨q2, rfl, h9⟩ := zrI_some h8
  obtain ⟨za7, e8, h10⟩ := zrO_some h9
  obtain ⟨zc8, rfl, h11⟩ := zrA1_some h10
  obtain ⟨rfl, h12⟩ := zrP_some h11
  obtain ⟨za9, e9, h13⟩ := zrO_some h12
  obtain ⟨zc10, rfl, h14⟩ := zrA1_some h13
  obtain ⟨rfl, h15⟩ := zrP_some h14
  obtain ⟨za11, e10, h16⟩ := zrO_some h15
  obtain ⟨zc12, rfl, h17⟩ := zrA1_some h16
  obtain ⟨rfl, h18⟩ := zrP_some h17
  obtain ⟨za13, e11, h19⟩ := zrO_some h18
  obtain ⟨zc14, rfl, h20⟩ := zrA1_some h19
  obtain ⟨rfl, h21⟩ := zrP_some h20
  obtain ⟨za15, e13, h22⟩ := zrO_some h21
  obtain ⟨zc16, rfl, h23⟩ := zrA1_some h22
  obtain ⟨q3, rfl, h24⟩ := zrI_some h23
  obtain ⟨zq17, zw18, rfl, h25⟩ := zrL_some h24
  obtain ⟨zk19, rfl, h26⟩ := zrKey_some h25
  obtain ⟨zl20, rfl, h27⟩ := zrC_some h26
  obtain ⟨zc21, zr22, rfl, h28⟩ := zrL_some h27
  obtain ⟨q4, rfl, h29⟩ := zrD_some h28
  obtain ⟨rfl, h30⟩ := zrN_some h29
  obtain ⟨zq23, zw24, rfl, h31⟩ := zrL_some h30
  obtain ⟨zk25, rfl, h32⟩ := zrKey_some h31
  obtain ⟨zl26, rfl, h33⟩ := zrC_some h32
  obtain ⟨zc27, zr28, rfl, h34⟩ := zrL_some h33
  obtain ⟨q5, rfl, h35⟩ := zrD_some h34
  obtain ⟨rfl, h36⟩ := zrN_some h35
  obtain ⟨zq29, zw30, rfl, h37⟩ := zrL_some h36
  obtain ⟨zk31, rfl, h38⟩ := zrKey_some h37
  obtain ⟨zl32, rfl, h39⟩ := zrC_some h38
  obtain ⟨zc33, zr34, rfl, h40⟩ := zrL_some h39
  obtain ⟨rfl, h41⟩ := zrNil_some h40
  obtain ⟨rfl, h42⟩ := zrN_some h41
  obtain ⟨zq35, zw36, rfl, h43⟩ := zrL_some h42
  obtain ⟨zk37, rfl, h44⟩ := zrKey_some h43
  obtain ⟨zl38, rfl, h45⟩ := zrC_some h44
  obtain ⟨zc39, zr40, rfl, h46⟩ := zrL_some h45
  obtain ⟨rfl, h47⟩ := zrNil_some h46
  obtain ⟨rfl, h48⟩ := zrN_some h47
  obtain ⟨rfl, h49⟩ := zrN_some h48
  have h := Option.some.inj h49
  have hu := congrArg Prod.fst h
  have hv := congrArg Prod.snd h
  dsimp only at hu hv
  subst hu
  subst hv
  exact ⟨rfl, (tm_fill (hj rfl) (Lv := [(0, .one (.d false false (.list (.prod (.int .i64) (.list (.prod (.int .i64) (.int .i64))))) q0)), (1, .one (.v false (.int .i64 q1))), (3, .one (.v false (.int .i64 q2))), (8, .one (.p 0 0)), (9, .one (.p 1 0)), (10, .one (.p 13 0)), (11, .one (.p 16 0)), (13, .one (.v false (.int .i64 q3)))]) (by kernel_rfl) ⟨e0, e1, e3, e8, e9, e10, e11, e13, trivial⟩).trans (by kernel_rfl), rfl⟩
theorem rk1_read_ok (st : Stt) (u : rk1_U) (v : rk1_V) (h : rk1_read st = some (u, v)) : rk1_cok st = true ∧ staysA [] [16, 13, 1, 0] st.own = true ∧ rk1_can st = rk1_St u v := by
  obtain ⟨h1, h2, h3⟩ := rk1_rd_ok (fun hb => by rw [Bool.and_eq_true, Bool.and_eq_true] at hb; exact hb.2.2) h
  rw [Bool.and_eq_true, Bool.and_eq_true] at h1
  refine ⟨h1.1, h1.2.1, ?_⟩
  have e : rk1_can st = ⟨(rk1_can st).tm, (rk1_can st).own, 2020⟩ := by kernel_rfl
  rw [e, h2, h3]
  rfl
noncomputable def rk1_cond (u : rk1_U) (v : rk1_V) : Bool := runC (rk1_step u) v
noncomputable def rk1_g (u : rk1_U) (v : rk1_V) : Nat × rk1_V := runG (rk1_step u) v
theorem rk1_hg : ∀ (u : rk1_U) (v : rk1_V), rk1_cond u v = true → loopN (rk1_step u) ((fun u v => runF (rk1_step u) v) u v) v = some (rk1_g u v) := by
  exact fun u v h => run_hg h
noncomputable def rk1_m (st : Stt) : Option (Tr (Ex × Stt)) := sumM rk1_read rk1_cond rk1_St rk1_g [(0, .exit 2)] st
noncomputable def rgH_L53 : FuncId → Loops := addL 11 [0, 1, 0, 1, 1, 1, 1, 1] rk1_m rgH_L52
set_option maxRecDepth 100000 in
set_option maxHeartbeats 4000000 in
theorem rgH_L53_ok : LoopsOK Try.prog rgH_L53 :=
  loop_sumF (body := (bodyOf Try.prog 11)) (c := (loopOf (bodyOf Try.prog 11) [1, 1, 1, 1, 1, 0, 1, 0])) (kinds := [.exit 2]) (allow := [(0, .exit 2)]) (St := rk1_St) (step := rk1_step) (W := [2, 4, 5, 6, 7, 12, 14, 15, 16, 17, 18, 19, 20, 21, 22, 23, 24, 25, 26, 27, 28, 29, 30, 31, 32, 33, 34, 35, 36, 37, 38, 39, 40, 41, 42, 43, 44, 45, 46, 47, 48, 49, 50, 51, 52, 53, 54, 55, 56, 57, 58, 59, 60, 61]) (As := []) (ks := [16, 13, 1, 0]) (dd := []) (nx := 2020) (n := 100000) (g := rk1_g) (cond := rk1_cond) (fuel := (fun u v => runF (rk1_step u) v)) (read := rk1_read) (by kernel_rfl) (rgH_S51_ok) (rgH_L52_ok) 7 ⟨Try.f11, by kernel_rfl, by kernel_rfl⟩ (by kernel_rfl) (by kernel_rfl) (by kernel_rfl) rk1_step_eq rk1_hg rk1_read_ok
theorem rk0_run {L : List Rg} {i t b : Int} {o s0 : Rg} (hz : szL L = true) (hs : valG s0) (h0 : 0 ≤ i) (h1 : i < (L.length : Int)) : rk0_cond (L, i, t, b, o) (1, s0) = true ∧ rk0_g (L, i, t, b, o) (1, s0) = (0, (((skN L t + 1 : Nat) : Int), foldG (fun k => layG L (i + 1 + (k : Int))) (skN L t) s0)) := by
  have hn := szL_len hz
  have mn : (if (L.length : Int) < t then (L.length : Int) else t) = min t (L.length : Int) := ite_min _ _
  have R1 := run_steps (step := rk0_step (L, i, t, b, o)) (St := fun j => (((j + 1 : Nat) : Int), foldG (fun k => layG L (i + 1 + (k : Int))) j s0)) (n := skN L t) (t := (0, (((skN L t + 1 : Nat) : Int), foldG (fun k => layG L (i + 1 + (k : Int))) (skN L t) s0))) (by
    have d : decide (((skN L t + 1 : Nat) : Int) ≤ min t (L.length : Int)) = false := decide_eq_false (by unfold skN; omega)
    simp only [rk0_step, Tr.val, mn, d, cond_false]) (skN L t) 0 (Nat.zero_add _) (fun j _ hj => by
    have hj2 : j < (min t (L.length : Int)).toNat := hj
    have d : decide (((j + 1 : Nat) : Int) ≤ min t (L.length : Int)) = true := decide_eq_true (by omega)
    have w : IntKind.wrap IntKind.i64 (((j + 1 : Nat) : Int) + (1 : Int)) = ((j + 1 + 1 : Nat) : Int) := by rw [wid (by omega) (by omega)]; omega
    have w2 : IntKind.wrap IntKind.i64 (i + ((j + 1 : Nat) : Int)) = i + 1 + (j : Int) := by rw [wid (by omega) (by omega)]; omega
    have s1 := val_sz (foldG_val (f := fun k => layG L (i + 1 + (k : Int))) hs j)
    have s2 := val_sz (layG_val L (i + 1 + (j : Int)))
    simp only [rk0_step, Tr.val, mn, d, w, w2, hz, s1, s2, Bool.and_self, cond_true]
    rfl)
  exact R1
theorem rk1_run {L : List Rg} {i b : Int} {o s0 : Rg} (hz : szL L = true) (hs : valG s0) (h0 : 0 ≤ i) (h1 : i < (L.length : Int)) : rk1_cond (L, i, b, o) (1, s0) = true ∧ rk1_g (L, i, b, o) (1, s0) = (0, (((skN L b + 1 : Nat) : Int), foldG (fun k => layG L (i - 1 - (k : Int))) (skN L b) s0)) := by
  have hn := szL_len hz
  have mn : (if (L.length : Int) < b then (L.length : Int) else b) = min b (L.length : Int) := ite_min _ _
  have R1 := run_steps (step := rk1_step (L, i, b, o)) (St := fun j => (((j + 1 : Nat) : Int), foldG (fun k => layG L (i - 1 - (k : Int))) j s0)) (n := skN L b) (t := (0, (((skN L b + 1 : Nat) : Int), foldG (fun k => layG L (i - 1 - (k : Int))) (skN L b) s0))) (by
    have d : decide (((skN L b + 1 : Nat) : Int) ≤ min b (L.length : Int)) = false := decide_eq_false (by unfold skN; omega)
    simp only [rk1_step, Tr.val, mn, d, cond_false]) (skN L b) 0 (Nat.zero_add _) (fun j _ hj => by
    have hj2 : j < (min b (L.length : Int)).toNat := hj
    have d : decide (((j + 1 : Nat) : Int) ≤ min b (L.length : Int)) = true := decide_eq_true (by omega)
    have w : IntKind.wrap IntKind.i64 (((j + 1 : Nat) : Int) + (1 : Int)) = ((j + 1 + 1 : Nat) : Int) := by rw [wid (by omega) (by omega)]; omega
    have w2 : IntKind.wrap IntKind.i64 (i - ((j + 1 : Nat) : Int)) = i - 1 - (j : Int) := by rw [wid (by omega) (by omega)]; omega
    have s1 := val_sz (foldG_val (f := fun k => layG L (i - 1 - (k : Int))) hs j)
    have s2 := val_sz (layG_val L (i - 1 - (j : Int)))
    simp only [rk1_step, Tr.val, mn, d, w, w2, hz, s1, s2, Bool.and_self, cond_true]
    rfl)
  exact R1
set_option maxRecDepth 100000 in
theorem rkc_tree (L : (Ty.list (.list (.prod (.int .i64) (.list (.prod (.int .i64) (.int .i64)))))).den) (i : Int) (t : Int) (b : Int) : evalF Try.prog rgH_S51 (opens []) rgH_L53 9 11 [.one (.d false false (.list (.prod (.int .i64) (.list (.prod (.int .i64) (.int .i64))))) L), .one (.v false (.int .i64 i)), .one (.v false (.int .i64 t)), .one (.v false (.int .i64 b))] = .br ((bif bif decide (i < (0 : Int)) then true else decide (i ≥ (↑(List.length L) : Int)) then true else ((szL L) && ((rk0_cond (L, i, t, b, layG L i) ((1 : Int), layG L i)) && ((Nat.beq (Prod.fst (rk0_g (L, i, t, b, layG L i) ((1 : Int), layG L i))) (0 : Nat)) && ((rk1_cond (L, i, b, layG L i) ((1 : Int), Prod.snd (Prod.snd (rk0_g (L, i, t, b, layG L i) ((1 : Int), layG L i))))) && ((Nat.beq (Prod.fst (rk1_g (L, i, b, layG L i) ((1 : Int), Prod.snd (Prod.snd (rk0_g (L, i, t, b, layG L i) ((1 : Int), layG L i)))))) (0 : Nat)) && (szG (layG L i) && szG (Prod.snd (Prod.snd (rk1_g (L, i, b, layG L i) ((1 : Int), Prod.snd (Prod.snd (rk0_g (L, i, t, b, layG L i) ((1 : Int), layG L i))))))))))))))) (.ret (.tup [(true, [.d false false (.prod (.int .i64) (.list (.prod (.int .i64) (.int .i64)))) (bif bif decide (i < (0 : Int)) then true else decide (i ≥ (↑(List.length L) : Int)) then [] else opR (0 : Int) (layG L i) (Prod.snd (Prod.snd (rk1_g (L, i, b, layG L i) ((1 : Int), Prod.snd (Prod.snd (rk0_g (L, i, t, b, layG L i) ((1 : Int), layG L i))))))))]), (true, [.d false false (.prod (.int .i64) (.list (.prod (.int .i64) (.int .i64)))) (bif bif decide (i < (0 : Int)) then true else decide (i ≥ (↑(List.length L) : Int)) then [] else Prod.snd (Prod.snd (rk1_g (L, i, b, layG L i) ((1 : Int), Prod.snd (Prod.snd (rk0_g (L, i, t, b, layG L i) ((1 : Int), layG L i)))))))])])) (.bad 116) := by kernel_rfl
theorem rkc_val (L : (Ty.list (.list (.prod (.int .i64) (.list (.prod (.int .i64) (.int .i64)))))).den) (i : Int) (t : Int) (b : Int) (hc : (szL L) = true) : (.br ((bif bif decide (i < (0 : Int)) then true else decide (i ≥ (↑(List.length L) : Int)) then true else ((szL L) && ((rk0_cond (L, i, t, b, layG L i) ((1 : Int), layG L i)) && ((Nat.beq (Prod.fst (rk0_g (L, i, t, b, layG L i) ((1 : Int), layG L i))) (0 : Nat)) && ((rk1_cond (L, i, b, layG L i) ((1 : Int), Prod.snd (Prod.snd (rk0_g (L, i, t, b, layG L i) ((1 : Int), layG L i))))) && ((Nat.beq (Prod.fst (rk1_g (L, i, b, layG L i) ((1 : Int), Prod.snd (Prod.snd (rk0_g (L, i, t, b, layG L i) ((1 : Int), layG L i)))))) (0 : Nat)) && (szG (layG L i) && szG (Prod.snd (Prod.snd (rk1_g (L, i, b, layG L i) ((1 : Int), Prod.snd (Prod.snd (rk0_g (L, i, t, b, layG L i) ((1 : Int), layG L i))))))))))))))) (.ret (.tup [(true, [.d false false (.prod (.int .i64) (.list (.prod (.int .i64) (.int .i64)))) (bif bif decide (i < (0 : Int)) then true else decide (i ≥ (↑(List.length L) : Int)) then [] else opR (0 : Int) (layG L i) (Prod.snd (Prod.snd (rk1_g (L, i, b, layG L i) ((1 : Int), Prod.snd (Prod.snd (rk0_g (L, i, t, b, layG L i) ((1 : Int), layG L i))))))))]), (true, [.d false false (.prod (.int .i64) (.list (.prod (.int .i64) (.int .i64)))) (bif bif decide (i < (0 : Int)) then true else decide (i ≥ (↑(List.length L) : Int)) then [] else Prod.snd (Prod.snd (rk1_g (L, i, b, layG L i) ((1 : Int), Prod.snd (Prod.snd (rk0_g (L, i, t, b, layG L i) ((1 : Int), layG L i)))))))])])) (.bad 116) : Tr AV).val = some (.tup [(true, [.d false false (.prod (.int .i64) (.list (.prod (.int .i64) (.int .i64)))) (skF L i t b)]), (true, [.d false false (.prod (.int .i64) (.list (.prod (.int .i64) (.int .i64)))) (skS L i t b)])]) := by
  obtain ⟨K, rfl⟩ : ∃ K : List Rg, K = L := ⟨L, rfl⟩
  have hz : szL K = true := hc
  unfold skF
  show cond _ _ _ = _
  by_cases h1 : i < 0
  · have d1 : decide (i < (0 : Int)) = true := decide_eq_true h1
    simp only [d1, skS_out t b (.inl h1), layG_out (.inl h1), op0_nil, cond_true, Tr.val]
  · have d1 : decide (i < (0 : Int)) = false := decide_eq_false h1
    by_cases h2 : i ≥ (K.length : Int)
    · have d2 : decide (i ≥ (K.length : Int)) = true := decide_eq_true h2
      simp only [d1, d2, skS_out t b (.inr h2), layG_out (.inr h2), op0_nil, cond_true, cond_false, Tr.val]
    · have d2 : decide (i ≥ (K.length : Int)) = false := decide_eq_false h2
      have i0 : 0 ≤ i := by omega
      have i1 : i < (K.length : Int) := by omega
      obtain ⟨v1, v2⟩ := rk0_run (L := K) (t := t) (b := b) (o := layG K i) hz (layG_val K i) i0 i1
      obtain ⟨w1, w2⟩ := rk1_run (b := b) (o := layG K i) hz (foldG_val (f := fun k => layG K (i + 1 + (k : Int))) (layG_val K i) (skN K t)) i0 i1
      have e : foldG (fun k => layG K (i - 1 - (k : Int))) (skN K b) (foldG (fun k => layG K (i + 1 + (k : Int))) (skN K t) (layG K i)) = skS K i t b := rfl
      have s1 := val_sz (layG_val K i)
      have s2 := val_sz (skS_val K i t b)
      simp only [d1, d2, hz, v1, v2, w1, w2, e, s1, s2, Nat.beq, Bool.and_self, cond_true, cond_false, Tr.val]
noncomputable def rkc_g : List AV → Option (Tr AV)
  | [.one (.d _ _ (.list (.prod (.int .i64) (.list (.prod (.int .i64) (.int .i64))))) L), .one (.v _ (.int .i64 i)), .one (.v _ (.int .i64 t)), .one (.v _ (.int .i64 b))] => some (.br (szL L) (.ret (.tup [(true, [.d false false (.prod (.int .i64) (.list (.prod (.int .i64) (.int .i64)))) (skF L i t b)]), (true, [.d false false (.prod (.int .i64) (.list (.prod (.int .i64) (.int .i64)))) (skS L i t b)])])) (.bad 900))
  | _ => none
set_option maxHeartbeats 4000000 in
theorem rkc_ok : FunOK Try.prog 11 rkc_g := by
  refine fun_ok (by kernel_rfl) (rgH_S51_ok) (rgH_L53_ok) 9 (On := (opens [])) (fun args t h => ?_)
  unfold rkc_g at h
  split at h
  · rename_i _ _ L _ i _ t _ b
    simp only [Option.some.injEq] at h
    subst h
    refine ⟨[.one (.d false false (.list (.prod (.int .i64) (.list (.prod (.int .i64) (.int .i64))))) L), .one (.v false (.int .i64 i)), .one (.v false (.int .i64 t)), .one (.v false (.int .i64 b))], rfl, fun fr w us h => h, fun r hr => ?_⟩
    obtain ⟨hc, hr⟩ := br_bad hr
    simp only [Tr.val, Option.some.injEq] at hr
    subst hr
    rw [rkc_tree]
    exact rkc_val L i t b hc
  · cases h
noncomputable def rgH_S54 : Sums := addS 11 rkc_g rgH_S51
theorem rgH_S54_ok : SumOK Try.prog rgH_S54 := addS_ok (rkc_ok) (rgH_S51_ok)
set_option maxRecDepth 100000 in
theorem law_SkinResults_tree (L : (Ty.list (.list (.prod (.int .i64) (.list (.prod (.int .i64) (.int .i64)))))).den) (i : Int) (t : Int) (b : Int) : evalF Try.prog rgH_S54 (opens []) rgH_L53 9 3 [.ag [.d false false (.list (.prod (.int .i64) (.list (.prod (.int .i64) (.int .i64))))) L, .v false (.int .i64 i), .v false (.int .i64 t), .v false (.int .i64 b)]] = .br ((bif !smL L then true else ((szL L) && ((szL L) && ((szG (skF L i t b)) && (bif eqRg (skF L i t b) (skF L i t b) then (szG (skS L i t b)) else true)))))) (.ret (.one (.v false (.bool (bif !smL L then true else bif eqRg (skF L i t b) (skF L i t b) then bif eqRg (skS L i t b) (skS L i t b) then true else false else false))))) (.bad 116) := by kernel_rfl
set_option maxHeartbeats 4000000 in
theorem law_SkinResults_all (L : (Ty.list (.list (.prod (.int .i64) (.list (.prod (.int .i64) (.int .i64)))))).den) (i : Int) (t : Int) (b : Int) (r0 : Ty.InR (.prod (.list (.list (.prod (.int .i64) (.list (.prod (.int .i64) (.int .i64)))))) (.prod (.int .i64) (.prod (.int .i64) (.int .i64)))) (L, (i, (t, b))))  : Tr.all (fun r => ∃ kn, r = AV.one (.v kn (.bool true))) (.br ((bif !smL L then true else ((szL L) && ((szL L) && ((szG (skF L i t b)) && (bif eqRg (skF L i t b) (skF L i t b) then (szG (skS L i t b)) else true)))))) (.ret (.one (.v false (.bool (bif !smL L then true else bif eqRg (skF L i t b) (skF L i t b) then bif eqRg (skS L i t b) (skS L i t b) then true else false else false))))) (.bad 116)) := by
  obtain ⟨K, rfl⟩ : ∃ K : List Rg, K = L := ⟨L, rfl⟩
  cases hs : smL K
  · simp only [Bool.not_false, cond_true]
    exact ⟨fun _ => ⟨_, rfl⟩, fun h => by cases h⟩
  · obtain ⟨hl, hz⟩ := smL_sz hs
    have sF := val_sz (skF_val K i t b)
    have sS := val_sz (skS_val K i t b)
    have q1 : eqRg (skF K i t b) (skF K i t b) = true := decide_eq_true rfl
    have q2 : eqRg (skS K i t b) (skS K i t b) = true := decide_eq_true rfl
    simp only [hz, sF, sS, q1, q2, Bool.not_true, Bool.and_self, cond_true, cond_false]
    exact ⟨fun _ => ⟨_, rfl⟩, fun h => by cases h⟩
set_option maxHeartbeats 4000000 in
theorem law_SkinResults (v0 : Value) (x0 : ((.prod (.list (.list (.prod (.int .i64) (.list (.prod (.int .i64) (.int .i64)))))) (.prod (.int .i64) (.prod (.int .i64) (.int .i64)))) : Ty).den) (r0 : Ty.InR (.prod (.list (.list (.prod (.int .i64) (.list (.prod (.int .i64) (.int .i64)))))) (.prod (.int .i64) (.prod (.int .i64) (.int .i64)))) x0) (z_w : World) (i0 : (AV.ag (Ty.cells false (.prod (.list (.list (.prod (.int .i64) (.list (.prod (.int .i64) (.int .i64)))))) (.prod (.int .i64) (.prod (.int .i64) (.int .i64)))) x0)).is [] (fun _ => none) (fun b => b < z_w.heap.size) z_w v0) : Calls Try.prog 3 #[v0] z_w fun e w' => e = .returned (.bool true) ∧ Ext z_w w' := by
  obtain ⟨L, ⟨i, ⟨t, b⟩⟩⟩ := x0
  refine law_of_tree (by kernel_rfl) (rgH_S54_ok) (rgH_L53_ok) (law_SkinResults_tree L i t b) (law_SkinResults_all L i t b r0 ) rfl z_w _ _ (fun _ h => h) ⟨_, _, rfl, i0, rfl⟩
end Go.Proofs.Ytfdamfapnpgmjaa
