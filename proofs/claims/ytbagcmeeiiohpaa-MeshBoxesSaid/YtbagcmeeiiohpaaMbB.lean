/-
  Layers 4, 7: Bounds, Box; MeshBoxes.
-/
import Derived.Test.YtbagcmeeiiohpaaProg
import Derived.Test.YtbagcmeeiiohpaaFvX
import Derived.Test.YtbagcmeeiiohpaaFvZ
import Derived.Test.YtbagcmeeiiohpaaAut
import Derived.Test.YtbagcmeeiiohpaaRd
import Derived.Test.YtbagcmeeiiohpaaPl
import Derived.Test.YtbagcmeeiiohpaaSeA
import Derived.Test.YtbagcmeeiiohpaaSeB
import Derived.Test.YtbagcmeeiiohpaaSeC
import Derived.Test.YtbagcmeeiiohpaaSeD
import Derived.Test.YtbagcmeeiiohpaaMeW
import Derived.Test.YtbagcmeeiiohpaaMbA
namespace Go.Proofs.Ytbagcmeeiiohpaa
open Go
theorem rdet_eq {p q r : Int × (Int × Int)} (hp : vOk p.1 p.2.1 p.2.2 = true) (hq : vOk q.1 q.2.1 q.2.2 = true) (hr : vOk r.1 r.2.1 r.2.2 = true) : rdet p q r = dot3 p (crs3 q r) := by
  obtain ⟨p1, p2, p3⟩ := vOk_bd hp
  obtain ⟨q1, q2, q3⟩ := vOk_bd hq
  obtain ⟨r1, r2, r3⟩ := vOk_bd hr
  unfold rdet
  rw [wit_of (by omega) (by omega) (by omega) (by omega), wit_of (by omega) (by omega) (by omega) (by omega), wit_of (by omega) (by omega) (by omega) (by omega)]; rfl
theorem rvl_run {V T : List (Int × (Int × Int))} (h : chk V T = 0) : rvl_cond ((0 : Int), T, (T.length : Int), V, T) (0, 0) = true ∧ rvl_g ((0 : Int), T, (T.length : Int), V, T) (0, 0) = (0, (vsum V T, (T.length : Int))) := by
  obtain ⟨hV, hT, hv, ht⟩ := chk0 h
  have R := run_steps (step := rvl_step ((0 : Int), T, (T.length : Int), V, T)) (St := fun j => (vsum V (T.take j), (j : Int))) (n := T.length) (t := (0, (vsum V T, (T.length : Int)))) (by
    simp only [rvl_step, Tr.val, Int.lt_irrefl, decide_false, cond_false, List.take_length]) T.length 0 (Nat.zero_add _) (fun j _ hj => by
    have c1 : decide ((j : Int) < (T.length : Int)) = true := decide_eq_true (by omega)
    have c2 : decide ((0 : Int) ≤ (j : Int)) = true := decide_eq_true (by omega)
    obtain ⟨i1, i2, i3, i4, i5, i6⟩ := tOk_at ht hj
    have hb := vt_bd hv (decide_eq_true ⟨i1, i2, i3, i4, i5, i6⟩ : tOk V.length T[j] = true)
    have hd : rdet ((el_iii V T[j].1).1, (el_iii V T[j].1).2.1, (el_iii V T[j].1).2.2) ((el_iii V T[j].2.1).1, (el_iii V T[j].2.1).2.1, (el_iii V T[j].2.1).2.2) ((el_iii V T[j].2.2).1, (el_iii V T[j].2.2).2.1, (el_iii V T[j].2.2).2.2) = vt V T[j] := (rdet_eq (vOk_at hv i1 i2) (vOk_at hv i3 i4) (vOk_at hv i5 i6)).trans hb.1
    have B := vsum_bd hv (tGood_take ht j)
    have hl : (T.take j).length = j := by rw [List.length_take]; omega
    rw [hl] at B
    have e : vsum V (T.take (j + 1)) = vsum V (T.take j) + vt V T[j] := by
      rw [take_s hj, vsum_app]; simp [vsum]
    have w : IntKind.wrap IntKind.i64 (vsum V (T.take j) + vt V T[j]) = vsum V (T.take j) + vt V T[j] := wid (by omega) (by omega)
    rw [e]
    simp only [rvl_step, Tr.val, c1, c2, el_get hj, decide_eq_true i1, decide_eq_true i2, decide_eq_true i3, decide_eq_true i4, decide_eq_true i5, decide_eq_true i6, hd, w, wi1 hj hT, Bool.and_self, cond_true])
  exact R
set_option maxRecDepth 100000 in
theorem rvc_tree (V : (Ty.list (.prod (.int .i64) (.prod (.int .i64) (.int .i64)))).den) (T : (Ty.list (.prod (.int .i64) (.prod (.int .i64) (.int .i64)))).den) : evalF Try.prog mbA_S60 (opens []) mbA_L61 9 12 [.ag [.d false false (.prod (.int .i64) (.prod (.int .i64) (.int .i64))) V, .d false false (.prod (.int .i64) (.prod (.int .i64) (.int .i64))) T]] = .br ((bif chk V T != (0 : Int) then true else ((rvl_cond ((0 : Int), T, (↑(List.length T) : Int), V, T) ((0 : Int), (0 : Int))) && (Nat.beq (Prod.fst (rvl_g ((0 : Int), T, (↑(List.length T) : Int), V, T) ((0 : Int), (0 : Int)))) (0 : Nat))))) (.ret (.one (.v false (.int .i64 (bif chk V T != (0 : Int) then (0 : Int) else Prod.fst (Prod.snd (rvl_g ((0 : Int), T, (↑(List.length T) : Int), V, T) ((0 : Int), (0 : Int))))))))) (.bad 116) := by kernel_rfl
set_option maxHeartbeats 4000000 in
theorem rvc_val (V : (Ty.list (.prod (.int .i64) (.prod (.int .i64) (.int .i64)))).den) (T : (Ty.list (.prod (.int .i64) (.prod (.int .i64) (.int .i64)))).den) : (.br ((bif chk V T != (0 : Int) then true else ((rvl_cond ((0 : Int), T, (↑(List.length T) : Int), V, T) ((0 : Int), (0 : Int))) && (Nat.beq (Prod.fst (rvl_g ((0 : Int), T, (↑(List.length T) : Int), V, T) ((0 : Int), (0 : Int)))) (0 : Nat))))) (.ret (.one (.v false (.int .i64 (bif chk V T != (0 : Int) then (0 : Int) else Prod.fst (Prod.snd (rvl_g ((0 : Int), T, (↑(List.length T) : Int), V, T) ((0 : Int), (0 : Int))))))))) (.bad 116) : Tr AV).val = some (.one (.v false (.int .i64 (vol V T)))) := by
  show cond _ _ _ = _
  unfold vol
  by_cases h : chk V T = 0
  · obtain ⟨r1, r2⟩ := rvl_run (V := V) (T := T) h
    simp only [h, r1, r2, bne_self_eq_false, cond_false, cond_true, Nat.beq, Bool.and_self, Tr.val]
  · simp only [bne0 h, cond_true, Tr.val]
noncomputable def rvc_g : List AV → Option (Tr AV)
  | [.ag [.d _ _ (.prod (.int .i64) (.prod (.int .i64) (.int .i64))) V, .d _ _ (.prod (.int .i64) (.prod (.int .i64) (.int .i64))) T]] => some (.ret (.one (.v false (.int .i64 (vol V T)))))
  | _ => none
set_option maxHeartbeats 4000000 in
theorem rvc_ok : FunOK Try.prog 12 rvc_g := by
  refine fun_ok (by kernel_rfl) (mbA_S60_ok) (mbA_L61_ok) 9 (On := (opens [])) (fun args t h => ?_)
  unfold rvc_g at h
  split at h
  · rename_i _ _ V _ _ T
    simp only [Option.some.injEq] at h
    subst h
    refine ⟨[.ag [.d false false (.prod (.int .i64) (.prod (.int .i64) (.int .i64))) V, .d false false (.prod (.int .i64) (.prod (.int .i64) (.int .i64))) T]], rfl, fun fr w us h => h, fun r hr => ?_⟩
    simp only [Tr.val, Option.some.injEq] at hr
    subst hr
    rw [rvc_tree]
    exact rvc_val V T
  · cases h
noncomputable def mbB_S51 : Sums := addS 12 rvc_g mbA_S60
theorem mbB_S51_ok : SumOK Try.prog mbB_S51 := addS_ok (rvc_ok) (mbA_S60_ok)
abbrev bx0_U : Type := Int × Int × (Ty.list (.prod (.int .i64) (.prod (.int .i64) (.int .i64)))).den × Int × Int × Int × Int × Int × Int × Int × Int × Int × Int × Int × Int × Int × (Ty.list (.prod (.int .i64) (.prod (.int .i64) (.int .i64)))).den
abbrev bx0_V : Type := Int × Int × Int
noncomputable def bx0_St (u : bx0_U) (v : bx0_V) : Stt := ⟨[.one (.fn 43 []), .one .junk, .one .junk, .one (.v false (.int .i64 u.1)), .one (.v false (.int .i64 u.2.1)), .one (.v false (.int .i64 v.1)), .one (.v false (.int .i64 v.2.1)), .one .junk, .one .junk, .one .junk, .one .junk, .one .junk, .one .junk, .one .junk, .one .junk, .one .junk, .one .junk, .one .junk, .one .junk, .one (.d false false (.prod (.int .i64) (.prod (.int .i64) (.int .i64))) u.2.2.1), .one (.v false (.int .i64 u.2.2.2.1)), .one (.v false (.int .i64 v.2.2)), .one .junk, .one .junk, .one .junk, .one .junk, .one .junk, .one .junk, .one .junk, .one .junk, .one .junk, .one .junk, .one .junk, .one .junk, .one .junk, .one .junk, .one .junk, .one .junk], [(10, .cells [.v false (.int .i64 u.2.2.2.2.1), .v false (.int .i64 u.2.2.2.2.2.1), .v false (.int .i64 u.2.2.2.2.2.2.1)]), (9, .cells [.v false (.int .i64 u.2.2.2.2.2.2.2.1), .v false (.int .i64 u.2.2.2.2.2.2.2.2.1), .v false (.int .i64 u.2.2.2.2.2.2.2.2.2.1)]), (2, .cells [.v false (.int .i64 u.2.2.2.2.2.2.2.2.2.2.1), .v false (.int .i64 u.2.2.2.2.2.2.2.2.2.2.2.1), .v false (.int .i64 u.2.2.2.2.2.2.2.2.2.2.2.2.1)]), (1, .cells [.v false (.int .i64 u.2.2.2.2.2.2.2.2.2.2.2.2.2.1), .v false (.int .i64 u.2.2.2.2.2.2.2.2.2.2.2.2.2.2.1), .v false (.int .i64 u.2.2.2.2.2.2.2.2.2.2.2.2.2.2.2.1)]), (0, .cells [.d false false (.prod (.int .i64) (.prod (.int .i64) (.int .i64))) u.2.2.2.2.2.2.2.2.2.2.2.2.2.2.2.2])], 14017⟩
noncomputable def bx0_step (u : bx0_U) (v : bx0_V) : Tr (bx0_V ⊕ (Nat × bx0_V)) :=
  match u, v with
  | (_, _, q4, q5, _, _, _, _, _, _, _, _, _, _, _, _, _), (q2, q3, q6) => .br (decide (q6 < q5)) (.br (decide ((0 : Int) ≤ q6) && decide (q6 < (↑(List.length q4) : Int))) (.ret (.inl (if Prod.fst (el_iii q4 q6) < q2 then Prod.fst (el_iii q4 q6) else q2, if Prod.fst (el_iii q4 q6) > q3 then Prod.fst (el_iii q4 q6) else q3, IntKind.wrap IntKind.i64 (q6 + (1 : Int))))) (.bad 29)) (.ret (.inr (0, (q2, q3, q6))))
set_option maxRecDepth 100000 in
set_option maxHeartbeats 4000000 in
theorem bx0_step_eq : ∀ (u : bx0_U) (v : bx0_V), (evalC Try.prog (evalB Try.prog mbB_S51 (opens []) mbA_L61 7).1 (evalB Try.prog mbB_S51 (opens []) mbA_L61 7).2 (opens []) (mbA_L61 42) 100000 (0 :: [0, 1, 0, 1, 1]) (loopOf (bodyOf Try.prog 42) [1, 1, 0, 1, 0]) (bx0_St u v) []).bind (finF [1, 2, 7, 8, 9, 10, 11, 12, 13, 14, 15, 16, 17, 18, 22, 23, 24, 25, 26, 27, 28, 29, 30, 31, 32, 33, 34, 35, 36, 37] [] [10, 9, 2, 1, 0] [] 14017) = (bx0_step u v).bind (outA (bx0_St u) [.exit 0]) := by
  rintro ⟨q0, q1, q4, q5, q7, q8, q9, q10, q11, q12, q13, q14, q15, q16, q17, q18, q19⟩ ⟨q2, q3, q6⟩
  kernel_rfl
noncomputable def bx0_rd (b : Bool) (o0 : Option AV) (o3 : Option AV) (o4 : Option AV) (o5 : Option AV) (o6 : Option AV) (o19 : Option AV) (o20 : Option AV) (o21 : Option AV) (own : Own) : Option (bx0_U × bx0_V) := zrT b <| zrO o0 fun za1 => zrA1 za1 fun zc2 => zrF 43 [] zc2 <| zrO o3 fun za3 => zrA1 za3 fun zc4 => zrI .i64 zc4 fun q0 => zrO o4 fun za5 => zrA1 za5 fun zc6 => zrI .i64 zc6 fun q1 => zrO o5 fun za7 => zrA1 za7 fun zc8 => zrI .i64 zc8 fun q2 => zrO o6 fun za9 => zrA1 za9 fun zc10 => zrI .i64 zc10 fun q3 => zrO o19 fun za11 => zrA1 za11 fun zc12 => zrD (.prod (.int .i64) (.prod (.int .i64) (.int .i64))) zc12 fun q4 => zrO o20 fun za13 => zrA1 za13 fun zc14 => zrI .i64 zc14 fun q5 => zrO o21 fun za15 => zrA1 za15 fun zc16 => zrI .i64 zc16 fun q6 => zrL own fun zq17 zw18 => zrKey 10 zq17 fun zk19 => zrC zk19 fun zl20 => zrL zl20 fun zc21 zr22 => zrI .i64 zc21 fun q7 => zrL zr22 fun zc23 zr24 => zrI .i64 zc23 fun q8 => zrL zr24 fun zc25 zr26 => zrI .i64 zc25 fun q9 => zrN zr26 <| zrL zw18 fun zq27 zw28 => zrKey 9 zq27 fun zk29 => zrC zk29 fun zl30 => zrL zl30 fun zc31 zr32 => zrI .i64 zc31 fun q10 => zrL zr32 fun zc33 zr34 => zrI .i64 zc33 fun q11 => zrL zr34 fun zc35 zr36 => zrI .i64 zc35 fun q12 => zrN zr36 <| zrL zw28 fun zq37 zw38 => zrKey 2 zq37 fun zk39 => zrC zk39 fun zl40 => zrL zl40 fun zc41 zr42 => zrI .i64 zc41 fun q13 => zrL zr42 fun zc43 zr44 => zrI .i64 zc43 fun q14 => zrL zr44 fun zc45 zr46 => zrI .i64 zc45 fun q15 => zrN zr46 <| zrL zw38 fun zq47 zw48 => zrKey 1 zq47 fun zk49 => zrC zk49 fun zl50 => zrL zl50 fun zc51 zr52 => zrI .i64 zc51 fun q16 => zrL zr52 fun zc53 zr54 => zrI .i64 zc53 fun q17 => zrL zr54 fun zc55 zr56 => zrI .i64 zc55 fun q18 => zrN zr56 <| zrL zw48 fun zq57 zw58 => zrKey 0 zq57 fun zk59 => zrC zk59 fun zl60 => zrL zl60 fun zc61 zr62 => zrD (.prod (.int .i64) (.prod (.int .i64) (.int .i64))) zc61 fun q19 => zrN zr62 <| zrN zw58 <| some ((q0, q1, q4, q5, q7, q8, q9, q10, q11, q12, q13, q14, q15, q16, q17, q18, q19), (q2, q3, q6))
noncomputable def bx0_can (st : Stt) : Stt := canA [1, 2, 7, 8, 9, 10, 11, 12, 13, 14, 15, 16, 17, 18, 22, 23, 24, 25, 26, 27, 28, 29, 30, 31, 32, 33, 34, 35, 36, 37] [] [10, 9, 2, 1, 0] [] 14017 st
noncomputable def bx0_cok (st : Stt) : Bool := canAok [1, 2, 7, 8, 9, 10, 11, 12, 13, 14, 15, 16, 17, 18, 22, 23, 24, 25, 26, 27, 28, 29, 30, 31, 32, 33, 34, 35, 36, 37] [] [10, 9, 2, 1, 0] [] 14017 st
noncomputable def bx0_read (st : Stt) : Option (bx0_U × bx0_V) := bx0_rd (bx0_cok st && (staysA [] [10, 9, 2, 1, 0] st.own && juAll [1, 2, 7, 8, 9, 10, 11, 12, 13, 14, 15, 16, 17, 18, 22, 23, 24, 25, 26, 27, 28, 29, 30, 31, 32, 33, 34, 35, 36, 37] (bx0_can st).tm 38)) (bx0_can st).tm[0]? (bx0_can st).tm[3]? (bx0_can st).tm[4]? (bx0_can st).tm[5]? (bx0_can st).tm[6]? (bx0_can st).tm[19]? (bx0_can st).tm[20]? (bx0_can st).tm[21]? (bx0_can st).own
set_option maxRecDepth 100000 in
set_option maxHeartbeats 4000000 in
theorem bx0_rd_ok {b : Bool} {tm : List AV} {own : Own} {u : bx0_U} {v : bx0_V} (hj : b = true → juAll [1, 2, 7, 8, 9, 10, 11, 12, 13, 14, 15, 16, 17, 18, 22, 23, 24, 25, 26, 27, 28, 29, 30, 31, 32, 33, 34, 35, 36, 37] tm 38 = true) (h : bx0_rd b tm[0]? tm[3]? tm[4]? tm[5]? tm[6]? tm[19]? tm[20]? tm[21]? own = some (u, v)) : b = true ∧ tm = (bx0_St u v).tm ∧ own = (bx0_St u v).own := by
  unfold bx0_rd at h
  obtain ⟨rfl, h0⟩ := zrT_some h
  obtain ⟨za1, e0, h1⟩ := zrO_some h0
  obtain ⟨zc2, rfl, h2⟩ := zrA1_some h1
  obtain ⟨rfl, h3⟩ := zrF_some h2
  obtain ⟨za3, e3, h4⟩ := zrO_some h3
  obtain ⟨zc4, rfl, h5⟩ := zrA1_some h4
  obtain ⟨q0, rfl, h6⟩ := zrI_some h5
  obtain ⟨za5, e4, h7⟩ := zrO_some h6
  obtain ⟨zc6, rfl, h8⟩ := zrA1_some h7
  obtain ⟨q1, rfl, h9⟩ := zrI_some h8
  obtain ⟨za7, e5, h10⟩ := zrO_some h9
  obtain ⟨zc8, rfl, h11⟩ := zrA1_some h10
  obtain ⟨q2, rfl, h12⟩ := zrI_some h11
  obtain ⟨za9, e6, h13⟩ := zrO_some h12
  obtain ⟨zc10, rfl, h14⟩ := zrA1_some h13
  obtain ⟨q3, rfl, h15⟩ := zrI_some h14
  obtain ⟨za11, e19, h16⟩ := zrO_some h15
  obtain ⟨zc12, rfl, h17⟩ := zrA1_some h16
  obtain ⟨q4, rfl, h18⟩ := zrD_some h17
  obtain ⟨za13, e20, h19⟩ := zrO_some h18
  obtain ⟨zc14, rfl, h20⟩ := zrA1_some h19
  obtain ⟨q5, rfl, h21⟩ := zrI_some h20
  obtain ⟨za15, e21, h22⟩ := zrO_some h21
  obtain ⟨zc16, rfl, h23⟩ := zrA1_some h22
  obtain ⟨q6, rfl, h24⟩ := zrI_some h23
  obtain ⟨zq17, zw18, rfl, h25⟩ := zrL_some h24
  obtain ⟨zk19, rfl, h26⟩ := zrKey_some h25
  obtain ⟨zl20, rfl, h27⟩ := zrC_some h26
  obtain ⟨zc21, zr22, rfl, h28⟩ := zrL_some h27
  obtain ⟨q7, rfl, h29⟩ := zrI_some h28
  obtain ⟨zc23, zr24, rfl, h30⟩ := zrL_some h29
  obtain ⟨q8, rfl, h31⟩ := zrI_some h30
  obtain ⟨zc25, zr26, rfl, h32⟩ := zrL_some h31
  obtain ⟨q9, rfl, h33⟩ := zrI_some h32
  obtain ⟨rfl, h34⟩ := zrN_some h33
  obtain ⟨zq27, zw28, rfl, h35⟩ := zrL_some h34
  obtain ⟨zk29, rfl, h36⟩ := zrKey_some h35
  obtain ⟨zl30, rfl, h37⟩ := zrC_some h36
  obtain ⟨zc31, zr32, rfl, h38⟩ := zrL_some h37
  obtain ⟨q10, rfl, h39⟩ := zrI_some h38
  obtain ⟨zc33, zr34, rfl, h40⟩ := zrL_some h39
  obtain ⟨q11, rfl, h41⟩ := zrI_some h40
  obtain ⟨zc35, zr36, rfl, h42⟩ := zrL_some h41
  obtain ⟨q12, rfl, h43⟩ := zrI_some h42
  obtain ⟨rfl, h44⟩ := zrN_some h43
  obtain ⟨zq37, zw38, rfl, h45⟩ := zrL_some h44
  obtain ⟨zk39, rfl, h46⟩ := zrKey_some h45
  obtain ⟨zl40, rfl, h47⟩ := zrC_some h46
  obtain ⟨zc41, zr42, rfl, h48⟩ := zrL_some h47
  obtain ⟨q13, rfl, h49⟩ := zrI_some h48
  obtain ⟨zc43, zr44, rfl, h50⟩ := zrL_some h49
  obtain ⟨q14, rfl, h51⟩ := zrI_some h50
  obtain ⟨zc45, zr46, rfl, h52⟩ := zrL_some h51
  obtain ⟨q15, rfl, h53⟩ := zrI_some h52
  obtain ⟨rfl, h54⟩ := zrN_some h53
  obtain ⟨zq47, zw48, rfl, h55⟩ := zrL_some h54
  obtain ⟨zk49, rfl, h56⟩ := zrKey_some h55
  obtain ⟨zl50, rfl, h57⟩ := zrC_some h56
  obtain ⟨zc51, zr52, rfl, h58⟩ := zrL_some h57
  obtain ⟨q16, rfl, h59⟩ := zrI_some h58
  obtain ⟨zc53, zr54, rfl, h60⟩ := zrL_some h59
  obtain ⟨q17, rfl, h61⟩ := zrI_some h60
  obtain ⟨zc55, zr56, rfl, h62⟩ := zrL_some h61
  obtain ⟨q18, rfl, h63⟩ := zrI_some h62
  obtain ⟨rfl, h64⟩ := zrN_some h63
  obtain ⟨zq57, zw58, rfl, h65⟩ := zrL_some h64
  obtain ⟨zk59, rfl, h66⟩ := zrKey_some h65
  obtain ⟨zl60, rfl, h67⟩ := zrC_some h66
  obtain ⟨zc61, zr62, rfl, h68⟩ := zrL_some h67
  obtain ⟨q19, rfl, h69⟩ := zrD_some h68
  obtain ⟨rfl, h70⟩ := zrN_some h69
  obtain ⟨rfl, h71⟩ := zrN_some h70
  have h := Option.some.inj h71
  have hu := congrArg Prod.fst h
  have hv := congrArg Prod.snd h
  dsimp only at hu hv
  subst hu
  subst hv
  exact ⟨rfl, (tm_fill (hj rfl) (Lv := [(0, .one (.fn 43 [])), (3, .one (.v false (.int .i64 q0))), (4, .one (.v false (.int .i64 q1))), (5, .one (.v false (.int .i64 q2))), (6, .one (.v false (.int .i64 q3))), (19, .one (.d false false (.prod (.int .i64) (.prod (.int .i64) (.int .i64))) q4)), (20, .one (.v false (.int .i64 q5))), (21, .one (.v false (.int .i64 q6)))]) (by kernel_rfl) ⟨e0, e3, e4, e5, e6, e19, e20, e21, trivial⟩).trans (by kernel_rfl), rfl⟩
theorem bx0_read_ok (st : Stt) (u : bx0_U) (v : bx0_V) (h : bx0_read st = some (u, v)) : bx0_cok st = true ∧ staysA [] [10, 9, 2, 1, 0] st.own = true ∧ bx0_can st = bx0_St u v := by
  obtain ⟨h1, h2, h3⟩ := bx0_rd_ok (fun hb => by rw [Bool.and_eq_true, Bool.and_eq_true] at hb; exact hb.2.2) h
  rw [Bool.and_eq_true, Bool.and_eq_true] at h1
  refine ⟨h1.1, h1.2.1, ?_⟩
  have e : bx0_can st = ⟨(bx0_can st).tm, (bx0_can st).own, 14017⟩ := by kernel_rfl
  rw [e, h2, h3]
  rfl
noncomputable def bx0_cond (u : bx0_U) (v : bx0_V) : Bool := runC (bx0_step u) v
noncomputable def bx0_g (u : bx0_U) (v : bx0_V) : Nat × bx0_V := runG (bx0_step u) v
theorem bx0_hg : ∀ (u : bx0_U) (v : bx0_V), bx0_cond u v = true → loopN (bx0_step u) ((fun u v => runF (bx0_step u) v) u v) v = some (bx0_g u v) := by
  exact fun u v h => run_hg h
noncomputable def bx0_m (st : Stt) : Option (Tr (Ex × Stt)) := sumM bx0_read bx0_cond bx0_St bx0_g [(0, .exit 0)] st
noncomputable def mbB_L52 : FuncId → Loops := addL 42 [0, 1, 0, 1, 1] bx0_m mbA_L61
set_option maxRecDepth 100000 in
set_option maxHeartbeats 4000000 in
theorem mbB_L52_ok : LoopsOK Try.prog mbB_L52 :=
  loop_sumF (body := (bodyOf Try.prog 42)) (c := (loopOf (bodyOf Try.prog 42) [1, 1, 0, 1, 0])) (kinds := [.exit 0]) (allow := [(0, .exit 0)]) (St := bx0_St) (step := bx0_step) (W := [1, 2, 7, 8, 9, 10, 11, 12, 13, 14, 15, 16, 17, 18, 22, 23, 24, 25, 26, 27, 28, 29, 30, 31, 32, 33, 34, 35, 36, 37]) (As := []) (ks := [10, 9, 2, 1, 0]) (dd := []) (nx := 14017) (n := 100000) (g := bx0_g) (cond := bx0_cond) (fuel := (fun u v => runF (bx0_step u) v)) (read := bx0_read) (by kernel_rfl) (mbB_S51_ok) (mbA_L61_ok) 7 ⟨Try.f42, by kernel_rfl, by kernel_rfl⟩ (by kernel_rfl) (by kernel_rfl) (by kernel_rfl) bx0_step_eq bx0_hg bx0_read_ok
abbrev bx1_U : Type := Int × Int × (Ty.list (.prod (.int .i64) (.prod (.int .i64) (.int .i64)))).den × Int × Int × Int × Int × Int × Int × Int × Int × Int × Int × Int × Int × Int × (Ty.list (.prod (.int .i64) (.prod (.int .i64) (.int .i64)))).den
abbrev bx1_V : Type := Int × Int × Int
noncomputable def bx1_St (u : bx1_U) (v : bx1_V) : Stt := ⟨[.one (.fn 44 []), .one .junk, .one .junk, .one (.v false (.int .i64 u.1)), .one (.v false (.int .i64 u.2.1)), .one (.v false (.int .i64 v.1)), .one (.v false (.int .i64 v.2.1)), .one .junk, .one .junk, .one .junk, .one .junk, .one .junk, .one .junk, .one .junk, .one .junk, .one .junk, .one .junk, .one .junk, .one .junk, .one (.d false false (.prod (.int .i64) (.prod (.int .i64) (.int .i64))) u.2.2.1), .one (.v false (.int .i64 u.2.2.2.1)), .one (.v false (.int .i64 v.2.2)), .one .junk, .one .junk, .one .junk, .one .junk, .one .junk, .one .junk, .one .junk, .one .junk, .one .junk, .one .junk, .one .junk, .one .junk, .one .junk, .one .junk, .one .junk, .one .junk], [(10, .cells [.v false (.int .i64 u.2.2.2.2.1), .v false (.int .i64 u.2.2.2.2.2.1), .v false (.int .i64 u.2.2.2.2.2.2.1)]), (9, .cells [.v false (.int .i64 u.2.2.2.2.2.2.2.1), .v false (.int .i64 u.2.2.2.2.2.2.2.2.1), .v false (.int .i64 u.2.2.2.2.2.2.2.2.2.1)]), (2, .cells [.v false (.int .i64 u.2.2.2.2.2.2.2.2.2.2.1), .v false (.int .i64 u.2.2.2.2.2.2.2.2.2.2.2.1), .v false (.int .i64 u.2.2.2.2.2.2.2.2.2.2.2.2.1)]), (1, .cells [.v false (.int .i64 u.2.2.2.2.2.2.2.2.2.2.2.2.2.1), .v false (.int .i64 u.2.2.2.2.2.2.2.2.2.2.2.2.2.2.1), .v false (.int .i64 u.2.2.2.2.2.2.2.2.2.2.2.2.2.2.2.1)]), (0, .cells [.d false false (.prod (.int .i64) (.prod (.int .i64) (.int .i64))) u.2.2.2.2.2.2.2.2.2.2.2.2.2.2.2.2])], 14017⟩
noncomputable def bx1_step (u : bx1_U) (v : bx1_V) : Tr (bx1_V ⊕ (Nat × bx1_V)) :=
  match u, v with
  | (_, _, q4, q5, _, _, _, _, _, _, _, _, _, _, _, _, _), (q2, q3, q6) => .br (decide (q6 < q5)) (.br (decide ((0 : Int) ≤ q6) && decide (q6 < (↑(List.length q4) : Int))) (.ret (.inl (if Prod.fst (Prod.snd (el_iii q4 q6)) < q2 then Prod.fst (Prod.snd (el_iii q4 q6)) else q2, if Prod.fst (Prod.snd (el_iii q4 q6)) > q3 then Prod.fst (Prod.snd (el_iii q4 q6)) else q3, IntKind.wrap IntKind.i64 (q6 + (1 : Int))))) (.bad 29)) (.ret (.inr (0, (q2, q3, q6))))
set_option maxRecDepth 100000 in
set_option maxHeartbeats 4000000 in
theorem bx1_step_eq : ∀ (u : bx1_U) (v : bx1_V), (evalC Try.prog (evalB Try.prog mbB_S51 (opens []) mbB_L52 7).1 (evalB Try.prog mbB_S51 (opens []) mbB_L52 7).2 (opens []) (mbB_L52 42) 100000 (0 :: [0, 1, 0, 1, 1]) (loopOf (bodyOf Try.prog 42) [1, 1, 0, 1, 0]) (bx1_St u v) []).bind (finF [1, 2, 7, 8, 9, 10, 11, 12, 13, 14, 15, 16, 17, 18, 22, 23, 24, 25, 26, 27, 28, 29, 30, 31, 32, 33, 34, 35, 36, 37] [] [10, 9, 2, 1, 0] [] 14017) = (bx1_step u v).bind (outA (bx1_St u) [.exit 0]) := by
  rintro ⟨q0, q1, q4, q5, q7, q8, q9, q10, q11, q12, q13, q14, q15, q16, q17, q18, q19⟩ ⟨q2, q3, q6⟩
  kernel_rfl
noncomputable def bx1_rd (b : Bool) (o0 : Option AV) (o3 : Option AV) (o4 : Option AV) (o5 : Option AV) (o6 : Option AV) (o19 : Option AV) (o20 : Option AV) (o21 : Option AV) (own : Own) : Option (bx1_U × bx1_V) := zrT b <| zrO o0 fun za1 => zrA1 za1 fun zc2 => zrF 44 [] zc2 <| zrO o3 fun za3 => zrA1 za3 fun zc4 => zrI .i64 zc4 fun q0 => zrO o4 fun za5 => zrA1 za5 fun zc6 => zrI .i64 zc6 fun q1 => zrO o5 fun za7 => zrA1 za7 fun zc8 => zrI .i64 zc8 fun q2 => zrO o6 fun za9 => zrA1 za9 fun zc10 => zrI .i64 zc10 fun q3 => zrO o19 fun za11 => zrA1 za11 fun zc12 => zrD (.prod (.int .i64) (.prod (.int .i64) (.int .i64))) zc12 fun q4 => zrO o20 fun za13 => zrA1 za13 fun zc14 => zrI .i64 zc14 fun q5 => zrO o21 fun za15 => zrA1 za15 fun zc16 => zrI .i64 zc16 fun q6 => zrL own fun zq17 zw18 => zrKey 10 zq17 fun zk19 => zrC zk19 fun zl20 => zrL zl20 fun zc21 zr22 => zrI .i64 zc21 fun q7 => zrL zr22 fun zc23 zr24 => zrI .i64 zc23 fun q8 => zrL zr24 fun zc25 zr26 => zrI .i64 zc25 fun q9 => zrN zr26 <| zrL zw18 fun zq27 zw28 => zrKey 9 zq27 fun zk29 => zrC zk29 fun zl30 => zrL zl30 fun zc31 zr32 => zrI .i64 zc31 fun q10 => zrL zr32 fun zc33 zr34 => zrI .i64 zc33 fun q11 => zrL zr34 fun zc35 zr36 => zrI .i64 zc35 fun q12 => zrN zr36 <| zrL zw28 fun zq37 zw38 => zrKey 2 zq37 fun zk39 => zrC zk39 fun zl40 => zrL zl40 fun zc41 zr42 => zrI .i64 zc41 fun q13 => zrL zr42 fun zc43 zr44 => zrI .i64 zc43 fun q14 => zrL zr44 fun zc45 zr46 => zrI .i64 zc45 fun q15 => zrN zr46 <| zrL zw38 fun zq47 zw48 => zrKey 1 zq47 fun zk49 => zrC zk49 fun zl50 => zrL zl50 fun zc51 zr52 => zrI .i64 zc51 fun q16 => zrL zr52 fun zc53 zr54 => zrI .i64 zc53 fun q17 => zrL zr54 fun zc55 zr56 => zrI .i64 zc55 fun q18 => zrN zr56 <| zrL zw48 fun zq57 zw58 => zrKey 0 zq57 fun zk59 => zrC zk59 fun zl60 => zrL zl60 fun zc61 zr62 => zrD (.prod (.int .i64) (.prod (.int .i64) (.int .i64))) zc61 fun q19 => zrN zr62 <| zrN zw58 <| some ((q0, q1, q4, q5, q7, q8, q9, q10, q11, q12, q13, q14, q15, q16, q17, q18, q19), (q2, q3, q6))
noncomputable def bx1_can (st : Stt) : Stt := canA [1, 2, 7, 8, 9, 10, 11, 12, 13, 14, 15, 16, 17, 18, 22, 23, 24, 25, 26, 27, 28, 29, 30, 31, 32, 33, 34, 35, 36, 37] [] [10, 9, 2, 1, 0] [] 14017 st
noncomputable def bx1_cok (st : Stt) : Bool := canAok [1, 2, 7, 8, 9, 10, 11, 12, 13, 14, 15, 16, 17, 18, 22, 23, 24, 25, 26, 27, 28, 29, 30, 31, 32, 33, 34, 35, 36, 37] [] [10, 9, 2, 1, 0] [] 14017 st
noncomputable def bx1_read (st : Stt) : Option (bx1_U × bx1_V) := bx1_rd (bx1_cok st && (staysA [] [10, 9, 2, 1, 0] st.own && juAll [1, 2, 7, 8, 9, 10, 11, 12, 13, 14, 15, 16, 17, 18, 22, 23, 24, 25, 26, 27, 28, 29, 30, 31, 32, 33, 34, 35, 36, 37] (bx1_can st).tm 38)) (bx1_can st).tm[0]? (bx1_can st).tm[3]? (bx1_can st).tm[4]? (bx1_can st).tm[5]? (bx1_can st).tm[6]? (bx1_can st).tm[19]? (bx1_can st).tm[20]? (bx1_can st).tm[21]? (bx1_can st).own
set_option maxRecDepth 100000 in
set_option maxHeartbeats 4000000 in
theorem bx1_rd_ok {b : Bool} {tm : List AV} {own : Own} {u : bx1_U} {v : bx1_V} (hj : b = true → juAll [1, 2, 7, 8, 9, 10, 11, 12, 13, 14, 15, 16, 17, 18, 22, 23, 24, 25, 26, 27, 28, 29, 30, 31, 32, 33, 34, 35, 36, 37] tm 38 = true) (h : bx1_rd b tm[0]? tm[3]? tm[4]? tm[5]? tm[6]? tm[19]? tm[20]? tm[21]? own = some (u, v)) : b = true ∧ tm = (bx1_St u v).tm ∧ own = (bx1_St u v).own := by
  unfold bx1_rd at h
  obtain ⟨rfl, h0⟩ := zrT_some h
  obtain ⟨za1, e0, h1⟩ := zrO_some h0
  obtain ⟨zc2, rfl, h2⟩ := zrA1_some h1
  obtain ⟨rfl, h3⟩ := zrF_some h2
  obtain ⟨za3, e3, h4⟩ := zrO_some h3
  obtain ⟨zc4, rfl, h5⟩ := zrA1_some h4
  obtain ⟨q0, rfl, h6⟩ := zrI_some h5
  obtain ⟨za5, e4, h7⟩ := zrO_some h6
  obtain ⟨zc6, rfl, h8⟩ := zrA1_some h7
  obtain ⟨q1, rfl, h9⟩ := zrI_some h8
  obtain ⟨za7, e5, h10⟩ := zrO_some h9
  obtain ⟨zc8, rfl, h11⟩ := zrA1_some h10
  obtain ⟨q2, rfl, h12⟩ := zrI_some h11
  obtain ⟨za9, e6, h13⟩ := zrO_some h12
  obtain ⟨zc10, rfl, h14⟩ := zrA1_some h13
  obtain ⟨q3, rfl, h15⟩ := zrI_some h14
  obtain ⟨za11, e19, h16⟩ := zrO_some h15
  obtain ⟨zc12, rfl, h17⟩ := zrA1_some h16
  obtain ⟨q4, rfl, h18⟩ := zrD_some h17
  obtain ⟨za13, e20, h19⟩ := zrO_some h18
  obtain ⟨zc14, rfl, h20⟩ := zrA1_some h19
  obtain ⟨q5, rfl, h21⟩ := zrI_some h20
  obtain ⟨za15, e21, h22⟩ := zrO_some h21
  obtain ⟨zc16, rfl, h23⟩ := zrA1_some h22
  obtain ⟨q6, rfl, h24⟩ := zrI_some h23
  obtain ⟨zq17, zw18, rfl, h25⟩ := zrL_some h24
  obtain ⟨zk19, rfl, h26⟩ := zrKey_some h25
  obtain ⟨zl20, rfl, h27⟩ := zrC_some h26
  obtain ⟨zc21, zr22, rfl, h28⟩ := zrL_some h27
  obtain ⟨q7, rfl, h29⟩ := zrI_some h28
  obtain ⟨zc23, zr24, rfl, h30⟩ := zrL_some h29
  obtain ⟨q8, rfl, h31⟩ := zrI_some h30
  obtain ⟨zc25, zr26, rfl, h32⟩ := zrL_some h31
  obtain ⟨q9, rfl, h33⟩ := zrI_some h32
  obtain ⟨rfl, h34⟩ := zrN_some h33
  obtain ⟨zq27, zw28, rfl, h35⟩ := zrL_some h34
  obtain ⟨zk29, rfl, h36⟩ := zrKey_some h35
  obtain ⟨zl30, rfl, h37⟩ := zrC_some h36
  obtain ⟨zc31, zr32, rfl, h38⟩ := zrL_some h37
  obtain ⟨q10, rfl, h39⟩ := zrI_some h38
  obtain ⟨zc33, zr34, rfl, h40⟩ := zrL_some h39
  obtain ⟨q11, rfl, h41⟩ := zrI_some h40
  obtain ⟨zc35, zr36, rfl, h42⟩ := zrL_some h41
  obtain ⟨q12, rfl, h43⟩ := zrI_some h42
  obtain ⟨rfl, h44⟩ := zrN_some h43
  obtain ⟨zq37, zw38, rfl, h45⟩ := zrL_some h44
  obtain ⟨zk39, rfl, h46⟩ := zrKey_some h45
  obtain ⟨zl40, rfl, h47⟩ := zrC_some h46
  obtain ⟨zc41, zr42, rfl, h48⟩ := zrL_some h47
  obtain ⟨q13, rfl, h49⟩ := zrI_some h48
  obtain ⟨zc43, zr44, rfl, h50⟩ := zrL_some h49
  obtain ⟨q14, rfl, h51⟩ := zrI_some h50
  obtain ⟨zc45, zr46, rfl, h52⟩ := zrL_some h51
  obtain ⟨q15, rfl, h53⟩ := zrI_some h52
  obtain ⟨rfl, h54⟩ := zrN_some h53
  obtain ⟨zq47, zw48, rfl, h55⟩ := zrL_some h54
  obtain ⟨zk49, rfl, h56⟩ := zrKey_some h55
  obtain ⟨zl50, rfl, h57⟩ := zrC_some h56
  obtain ⟨zc51, zr52, rfl, h58⟩ := zrL_some h57
  obtain ⟨q16, rfl, h59⟩ := zrI_some h58
  obtain ⟨zc53, zr54, rfl, h60⟩ := zrL_some h59
  obtain ⟨q17, rfl, h61⟩ := zrI_some h60
  obtain ⟨zc55, zr56, rfl, h62⟩ := zrL_some h61
  obtain ⟨q18, rfl, h63⟩ := zrI_some h62
  obtain ⟨rfl, h64⟩ := zrN_some h63
  obtain ⟨zq57, zw58, rfl, h65⟩ := zrL_some h64
  obtain ⟨zk59, rfl, h66⟩ := zrKey_some h65
  obtain ⟨zl60, rfl, h67⟩ := zrC_some h66
  obtain ⟨zc61, zr62, rfl, h68⟩ := zrL_some h67
  obtain ⟨q19, rfl, h69⟩ := zrD_some h68
  obtain ⟨rfl, h70⟩ := zrN_some h69
  obtain ⟨rfl, h71⟩ := zrN_some h70
  have h := Option.some.inj h71
  have hu := congrArg Prod.fst h
  have hv := congrArg Prod.snd h
  dsimp only at hu hv
  subst hu
  subst hv
  exact ⟨rfl, (tm_fill (hj rfl) (Lv := [(0, .one (.fn 44 [])), (3, .one (.v false (.int .i64 q0))), (4, .one (.v false (.int .i64 q1))), (5, .one (.v false (.int .i64 q2))), (6, .one (.v false (.int .i64 q3))), (19, .one (.d false false (.prod (.int .i64) (.prod (.int .i64) (.int .i64))) q4)), (20, .one (.v false (.int .i64 q5))), (21, .one (.v false (.int .i64 q6)))]) (by kernel_rfl) ⟨e0, e3, e4, e5, e6, e19, e20, e21, trivial⟩).trans (by kernel_rfl), rfl⟩
theorem bx1_read_ok (st : Stt) (u : bx1_U) (v : bx1_V) (h : bx1_read st = some (u, v)) : bx1_cok st = true ∧ staysA [] [10, 9, 2, 1, 0] st.own = true ∧ bx1_can st = bx1_St u v := by
  obtain ⟨h1, h2, h3⟩ := bx1_rd_ok (fun hb => by rw [Bool.and_eq_true, Bool.and_eq_true] at hb; exact hb.2.2) h
  rw [Bool.and_eq_true, Bool.and_eq_true] at h1
  refine ⟨h1.1, h1.2.1, ?_⟩
  have e : bx1_can st = ⟨(bx1_can st).tm, (bx1_can st).own, 14017⟩ := by kernel_rfl
  rw [e, h2, h3]
  rfl
noncomputable def bx1_cond (u : bx1_U) (v : bx1_V) : Bool := runC (bx1_step u) v
noncomputable def bx1_g (u : bx1_U) (v : bx1_V) : Nat × bx1_V := runG (bx1_step u) v
theorem bx1_hg : ∀ (u : bx1_U) (v : bx1_V), bx1_cond u v = true → loopN (bx1_step u) ((fun u v => runF (bx1_step u) v) u v) v = some (bx1_g u v) := by
  exact fun u v h => run_hg h
noncomputable def bx1_m (st : Stt) : Option (Tr (Ex × Stt)) := sumM bx1_read bx1_cond bx1_St bx1_g [(0, .exit 0)] st
noncomputable def mbB_L53 : FuncId → Loops := addL 42 [0, 1, 0, 1, 1] bx1_m mbB_L52
set_option maxRecDepth 100000 in
set_option maxHeartbeats 4000000 in
theorem mbB_L53_ok : LoopsOK Try.prog mbB_L53 :=
  loop_sumF (body := (bodyOf Try.prog 42)) (c := (loopOf (bodyOf Try.prog 42) [1, 1, 0, 1, 0])) (kinds := [.exit 0]) (allow := [(0, .exit 0)]) (St := bx1_St) (step := bx1_step) (W := [1, 2, 7, 8, 9, 10, 11, 12, 13, 14, 15, 16, 17, 18, 22, 23, 24, 25, 26, 27, 28, 29, 30, 31, 32, 33, 34, 35, 36, 37]) (As := []) (ks := [10, 9, 2, 1, 0]) (dd := []) (nx := 14017) (n := 100000) (g := bx1_g) (cond := bx1_cond) (fuel := (fun u v => runF (bx1_step u) v)) (read := bx1_read) (by kernel_rfl) (mbB_S51_ok) (mbB_L52_ok) 7 ⟨Try.f42, by kernel_rfl, by kernel_rfl⟩ (by kernel_rfl) (by kernel_rfl) (by kernel_rfl) bx1_step_eq bx1_hg bx1_read_ok
abbrev bx2_U : Type := Int × Int × (Ty.list (.prod (.int .i64) (.prod (.int .i64) (.int .i64)))).den × Int × Int × Int × Int × Int × Int × Int × Int × Int × Int × Int × Int × Int × (Ty.list (.prod (.int .i64) (.prod (.int .i64) (.int .i64)))).den
abbrev bx2_V : Type := Int × Int × Int
noncomputable def bx2_St (u : bx2_U) (v : bx2_V) : Stt := ⟨[.one (.fn 45 []), .one .junk, .one .junk, .one (.v false (.int .i64 u.1)), .one (.v false (.int .i64 u.2.1)), .one (.v false (.int .i64 v.1)), .one (.v false (.int .i64 v.2.1)), .one .junk, .one .junk, .one .junk, .one .junk, .one .junk, .one .junk, .one .junk, .one .junk, .one .junk, .one .junk, .one .junk, .one .junk, .one (.d false false (.prod (.int .i64) (.prod (.int .i64) (.int .i64))) u.2.2.1), .one (.v false (.int .i64 u.2.2.2.1)), .one (.v false (.int .i64 v.2.2)), .one .junk, .one .junk, .one .junk, .one .junk, .one .junk, .one .junk, .one .junk, .one .junk, .one .junk, .one .junk, .one .junk, .one .junk, .one .junk, .one .junk, .one .junk, .one .junk], [(10, .cells [.v false (.int .i64 u.2.2.2.2.1), .v false (.int .i64 u.2.2.2.2.2.1), .v false (.int .i64 u.2.2.2.2.2.2.1)]), (9, .cells [.v false (.int .i64 u.2.2.2.2.2.2.2.1), .v false (.int .i64 u.2.2.2.2.2.2.2.2.1), .v false (.int .i64 u.2.2.2.2.2.2.2.2.2.1)]), (2, .cells [.v false (.int .i64 u.2.2.2.2.2.2.2.2.2.2.1), .v false (.int .i64 u.2.2.2.2.2.2.2.2.2.2.2.1), .v false (.int .i64 u.2.2.2.2.2.2.2.2.2.2.2.2.1)]), (1, .cells [.v false (.int .i64 u.2.2.2.2.2.2.2.2.2.2.2.2.2.1), .v false (.int .i64 u.2.2.2.2.2.2.2.2.2.2.2.2.2.2.1), .v false (.int .i64 u.2.2.2.2.2.2.2.2.2.2.2.2.2.2.2.1)]), (0, .cells [.d false false (.prod (.int .i64) (.prod (.int .i64) (.int .i64))) u.2.2.2.2.2.2.2.2.2.2.2.2.2.2.2.2])], 14017⟩
noncomputable def bx2_step (u : bx2_U) (v : bx2_V) : Tr (bx2_V ⊕ (Nat × bx2_V)) :=
  match u, v with
  | (_, _, q4, q5, _, _, _, _, _, _, _, _, _, _, _, _, _), (q2, q3, q6) => .br (decide (q6 < q5)) (.br (decide ((0 : Int) ≤ q6) && decide (q6 < (↑(List.length q4) : Int))) (.ret (.inl (if Prod.snd (Prod.snd (el_iii q4 q6)) < q2 then Prod.snd (Prod.snd (el_iii q4 q6)) else q2, if Prod.snd (Prod.snd (el_iii q4 q6)) > q3 then Prod.snd (Prod.snd (el_iii q4 q6)) else q3, IntKind.wrap IntKind.i64 (q6 + (1 : Int))))) (.bad 29)) (.ret (.inr (0, (q2, q3, q6))))
set_option maxRecDepth 100000 in
set_option maxHeartbeats 4000000 in
theorem bx2_step_eq : ∀ (u : bx2_U) (v : bx2_V), (evalC Try.prog (evalB Try.prog mbB_S51 (opens []) mbB_L53 7).1 (evalB Try.prog mbB_S51 (opens []) mbB_L53 7).2 (opens []) (mbB_L53 42) 100000 (0 :: [0, 1, 0, 1, 1]) (loopOf (bodyOf Try.prog 42) [1, 1, 0, 1, 0]) (bx2_St u v) []).bind (finF [1, 2, 7, 8, 9, 10, 11, 12, 13, 14, 15, 16, 17, 18, 22, 23, 24, 25, 26, 27, 28, 29, 30, 31, 32, 33, 34, 35, 36, 37] [] [10, 9, 2, 1, 0] [] 14017) = (bx2_step u v).bind (outA (bx2_St u) [.exit 0]) := by
  rintro ⟨q0, q1, q4, q5, q7, q8, q9, q10, q11, q12, q13, q14, q15, q16, q17, q18, q19⟩ ⟨q2, q3, q6⟩
  kernel_rfl
noncomputable def bx2_rd (b : Bool) (o0 : Option AV) (o3 : Option AV) (o4 : Option AV) (o5 : Option AV) (o6 : Option AV) (o19 : Option AV) (o20 : Option AV) (o21 : Option AV) (own : Own) : Option (bx2_U × bx2_V) := zrT b <| zrO o0 fun za1 => zrA1 za1 fun zc2 => zrF 45 [] zc2 <| zrO o3 fun za3 => zrA1 za3 fun zc4 => zrI .i64 zc4 fun q0 => zrO o4 fun za5 => zrA1 za5 fun zc6 => zrI .i64 zc6 fun q1 => zrO o5 fun za7 => zrA1 za7 fun zc8 => zrI .i64 zc8 fun q2 => zrO o6 fun za9 => zrA1 za9 fun zc10 => zrI .i64 zc10 fun q3 => zrO o19 fun za11 => zrA1 za11 fun zc12 => zrD (.prod (.int .i64) (.prod (.int .i64) (.int .i64))) zc12 fun q4 => zrO o20 fun za13 => zrA1 za13 fun zc14 => zrI .i64 zc14 fun q5 => zrO o21 fun za15 => zrA1 za15 fun zc16 => zrI .i64 zc16 fun q6 => zrL own fun zq17 zw18 => zrKey 10 zq17 fun zk19 => zrC zk19 fun zl20 => zrL zl20 fun zc21 zr22 => zrI .i64 zc21 fun q7 => zrL zr22 fun zc23 zr24 => zrI .i64 zc23 fun q8 => zrL zr24 fun zc25 zr26 => zrI .i64 zc25 fun q9 => zrN zr26 <| zrL zw18 fun zq27 zw28 => zrKey 9 zq27 fun zk29 => zrC zk29 fun zl30 => zrL zl30 fun zc31 zr32 => zrI .i64 zc31 fun q10 => zrL zr32 fun zc33 zr34 => zrI .i64 zc33 fun q11 => zrL zr34 fun zc35 zr36 => zrI .i64 zc35 fun q12 => zrN zr36 <| zrL zw28 fun zq37 zw38 => zrKey 2 zq37 fun zk39 => zrC zk39 fun zl40 => zrL zl40 fun zc41 zr42 => zrI .i64 zc41 fun q13 => zrL zr42 fun zc43 zr44 => zrI .i64 zc43 fun q14 => zrL zr44 fun zc45 zr46 => zrI .i64 zc45 fun q15 => zrN zr46 <| zrL zw38 fun zq47 zw48 => zrKey 1 zq47 fun zk49 => zrC zk49 fun zl50 => zrL zl50 fun zc51 zr52 => zrI .i64 zc51 fun q16 => zrL zr52 fun zc53 zr54 => zrI .i64 zc53 fun q17 => zrL zr54 fun zc55 zr56 => zrI .i64 zc55 fun q18 => zrN zr56 <| zrL zw48 fun zq57 zw58 => zrKey 0 zq57 fun zk59 => zrC zk59 fun zl60 => zrL zl60 fun zc61 zr62 => zrD (.prod (.int .i64) (.prod (.int .i64) (.int .i64))) zc61 fun q19 => zrN zr62 <| zrN zw58 <| some ((q0, q1, q4, q5, q7, q8, q9, q10, q11, q12, q13, q14, q15, q16, q17, q18, q19), (q2, q3, q6))
noncomputable def bx2_can (st : Stt) : Stt := canA [1, 2, 7, 8, 9, 10, 11, 12, 13, 14, 15, 16, 17, 18, 22, 23, 24, 25, 26, 27, 28, 29, 30, 31, 32, 33, 34, 35, 36, 37] [] [10, 9, 2, 1, 0] [] 14017 st
noncomputable def bx2_cok (st : Stt) : Bool := canAok [1, 2, 7, 8, 9, 10, 11, 12, 13, 14, 15, 16, 17, 18, 22, 23, 24, 25, 26, 27, 28, 29, 30, 31, 32, 33, 34, 35, 36, 37] [] [10, 9, 2, 1, 0] [] 14017 st
noncomputable def bx2_read (st : Stt) : Option (bx2_U × bx2_V) := bx2_rd (bx2_cok st && (staysA [] [10, 9, 2, 1, 0] st.own && juAll [1, 2, 7, 8, 9, 10, 11, 12, 13, 14, 15, 16, 17, 18, 22, 23, 24, 25, 26, 27, 28, 29, 30, 31, 32, 33, 34, 35, 36, 37] (bx2_can st).tm 38)) (bx2_can st).tm[0]? (bx2_can st).tm[3]? (bx2_can st).tm[4]? (bx2_can st).tm[5]? (bx2_can st).tm[6]? (bx2_can st).tm[19]? (bx2_can st).tm[20]? (bx2_can st).tm[21]? (bx2_can st).own
set_option maxRecDepth 100000 in
set_option maxHeartbeats 4000000 in
theorem bx2_rd_ok {b : Bool} {tm : List AV} {own : Own} {u : bx2_U} {v : bx2_V} (hj : b = true → juAll [1, 2, 7, 8, 9, 10, 11, 12, 13, 14, 15, 16, 17, 18, 22, 23, 24, 25, 26, 27, 28, 29, 30, 31, 32, 33, 34, 35, 36, 37] tm 38 = true) (h : bx2_rd b tm[0]? tm[3]? tm[4]? tm[5]? tm[6]? tm[19]? tm[20]? tm[21]? own = some (u, v)) : b = true ∧ tm = (bx2_St u v).tm ∧ own = (bx2_St u v).own := by
  unfold bx2_rd at h
  obtain ⟨rfl, h0⟩ := zrT_some h
  obtain ⟨za1, e0, h1⟩ := zrO_some h0
  obtain ⟨zc2, rfl, h2⟩ := zrA1_some h1
  obtain ⟨rfl, h3⟩ := zrF_some h2
  obtain ⟨za3, e3, h4⟩ := zrO_some h3
  obtain ⟨zc4, rfl, h5⟩ := zrA1_some h4
  obtain ⟨q0, rfl, h6⟩ := zrI_some h5
  obtain ⟨za5, e4, h7⟩ := zrO_some h6
  obtain ⟨zc6, rfl, h8⟩ := zrA1_some h7
  obtain ⟨q1, rfl, h9⟩ := zrI_some h8
  obtain ⟨za7, e5, h10⟩ := zrO_some h9
  obtain ⟨zc8, rfl, h11⟩ := zrA1_some h10
  obtain ⟨q2, rfl, h12⟩ := zrI_some h11
  obtain ⟨za9, e6, h13⟩ := zrO_some h12
  obtain ⟨zc10, rfl, h14⟩ := zrA1_some h13
  obtain ⟨q3, rfl, h15⟩ := zrI_some h14
  obtain ⟨za11, e19, h16⟩ := zrO_some h15
  obtain ⟨zc12, rfl, h17⟩ := zrA1_some h16
  obtain ⟨q4, rfl, h18⟩ := zrD_some h17
  obtain ⟨za13, e20, h19⟩ := zrO_some h18
  obtain ⟨zc14, rfl, h20⟩ := zrA1_some h19
  obtain ⟨q5, rfl, h21⟩ := zrI_some h20
  obtain ⟨za15, e21, h22⟩ := zrO_some h21
  obtain ⟨zc16, rfl, h23⟩ := zrA1_some h22
  obtain ⟨q6, rfl, h24⟩ := zrI_some h23
  obtain ⟨zq17, zw18, rfl, h25⟩ := zrL_some h24
  obtain ⟨zk19, rfl, h26⟩ := zrKey_some h25
  obtain ⟨zl20, rfl, h27⟩ := zrC_some h26
  obtain ⟨zc21, zr22, rfl, h28⟩ := zrL_some h27
  obtain ⟨q7, rfl, h29⟩ := zrI_some h28
  obtain ⟨zc23, zr24, rfl, h30⟩ := zrL_some h29
  obtain ⟨q8, rfl, h31⟩ := zrI_some h30
  obtain ⟨zc25, zr26, rfl, h32⟩ := zrL_some h31
  obtain ⟨q9, rfl, h33⟩ := zrI_some h32
  obtain ⟨rfl, h34⟩ := zrN_some h33
  obtain ⟨zq27, zw28, rfl, h35⟩ := zrL_some h34
  obtain ⟨zk29, rfl, h36⟩ := zrKey_some h35
  obtain ⟨zl30, rfl, h37⟩ := zrC_some h36
  obtain ⟨zc31, zr32, rfl, h38⟩ := zrL_some h37
  obtain ⟨q10, rfl, h39⟩ := zrI_some h38
  obtain ⟨zc33, zr34, rfl, h40⟩ := zrL_some h39
  obtain ⟨q11, rfl, h41⟩ := zrI_some h40
  obtain ⟨zc35, zr36, rfl, h42⟩ := zrL_some h41
  obtain ⟨q12, rfl, h43⟩ := zrI_some h42
  obtain ⟨rfl, h44⟩ := zrN_some h43
  obtain ⟨zq37, zw38, rfl, h45⟩ := zrL_some h44
  obtain ⟨zk39, rfl, h46⟩ := zrKey_some h45
  obtain ⟨zl40, rfl, h47⟩ := zrC_some h46
  obtain ⟨zc41, zr42, rfl, h48⟩ := zrL_some h47
  obtain ⟨q13, rfl, h49⟩ := zrI_some h48
  obtain ⟨zc43, zr44, rfl, h50⟩ := zrL_some h49
  obtain ⟨q14, rfl, h51⟩ := zrI_some h50
  obtain ⟨zc45, zr46, rfl, h52⟩ := zrL_some h51
  obtain ⟨q15, rfl, h53⟩ := zrI_some h52
  obtain ⟨rfl, h54⟩ := zrN_some h53
  obtain ⟨zq47, zw48, rfl, h55⟩ := zrL_some h54
  obtain ⟨zk49, rfl, h56⟩ := zrKey_some h55
  obtain ⟨zl50, rfl, h57⟩ := zrC_some h56
  obtain ⟨zc51, zr52, rfl, h58⟩ := zrL_some h57
  obtain ⟨q16, rfl, h59⟩ := zrI_some h58
  obtain ⟨zc53, zr54, rfl, h60⟩ := zrL_some h59
  obtain ⟨q17, rfl, h61⟩ := zrI_some h60
  obtain ⟨zc55, zr56, rfl, h62⟩ := zrL_some h61
  obtain ⟨q18, rfl, h63⟩ := zrI_some h62
  obtain ⟨rfl, h64⟩ := zrN_some h63
  obtain ⟨zq57, zw58, rfl, h65⟩ := zrL_some h64
  obtain ⟨zk59, rfl, h66⟩ := zrKey_some h65
  obtain ⟨zl60, rfl, h67⟩ := zrC_some h66
  obtain ⟨zc61, zr62, rfl, h68⟩ := zrL_some h67
  obtain ⟨q19, rfl, h69⟩ := zrD_some h68
  obtain ⟨rfl, h70⟩ := zrN_some h69
  obtain ⟨rfl, h71⟩ := zrN_some h70
  have h := Option.some.inj h71
  have hu := congrArg Prod.fst h
  have hv := congrArg Prod.snd h
  dsimp only at hu hv
  subst hu
  subst hv
  exact ⟨rfl, (tm_fill (hj rfl) (Lv := [(0, .one (.fn 45 [])), (3, .one (.v false (.int .i64 q0))), (4, .one (.v false (.int .i64 q1))), (5, .one (.v false (.int .i64 q2))), (6, .one (.v false (.int .i64 q3))), (19, .one (.d false false (.prod (.int .i64) (.prod (.int .i64) (.int .i64))) q4)), (20, .one (.v false (.int .i64 q5))), (21, .one (.v false (.int .i64 q6)))]) (by kernel_rfl) ⟨e0, e3, e4, e5, e6, e19, e20, e21, trivial⟩).trans (by kernel_rfl), rfl⟩
theorem bx2_read_ok (st : Stt) (u : bx2_U) (v : bx2_V) (h : bx2_read st = some (u, v)) : bx2_cok st = true ∧ staysA [] [10, 9, 2, 1, 0] st.own = true ∧ bx2_can st = bx2_St u v := by
  obtain ⟨h1, h2, h3⟩ := bx2_rd_ok (fun hb => by rw [Bool.and_eq_true, Bool.and_eq_true] at hb; exact hb.2.2) h
  rw [Bool.and_eq_true, Bool.and_eq_true] at h1
  refine ⟨h1.1, h1.2.1, ?_⟩
  have e : bx2_can st = ⟨(bx2_can st).tm, (bx2_can st).own, 14017⟩ := by kernel_rfl
  rw [e, h2, h3]
  rfl
noncomputable def bx2_cond (u : bx2_U) (v : bx2_V) : Bool := runC (bx2_step u) v
noncomputable def bx2_g (u : bx2_U) (v : bx2_V) : Nat × bx2_V := runG (bx2_step u) v
theorem bx2_hg : ∀ (u : bx2_U) (v : bx2_V), bx2_cond u v = true → loopN (bx2_step u) ((fun u v => runF (bx2_step u) v) u v) v = some (bx2_g u v) := by
  exact fun u v h => run_hg h
noncomputable def bx2_m (st : Stt) : Option (Tr (Ex × Stt)) := sumM bx2_read bx2_cond bx2_St bx2_g [(0, .exit 0)] st
noncomputable def mbB_L54 : FuncId → Loops := addL 42 [0, 1, 0, 1, 1] bx2_m mbB_L53
set_option maxRecDepth 100000 in
set_option maxHeartbeats 4000000 in
theorem mbB_L54_ok : LoopsOK Try.prog mbB_L54 :=
  loop_sumF (body := (bodyOf Try.prog 42)) (c := (loopOf (bodyOf Try.prog 42) [1, 1, 0, 1, 0])) (kinds := [.exit 0]) (allow := [(0, .exit 0)]) (St := bx2_St) (step := bx2_step) (W := [1, 2, 7, 8, 9, 10, 11, 12, 13, 14, 15, 16, 17, 18, 22, 23, 24, 25, 26, 27, 28, 29, 30, 31, 32, 33, 34, 35, 36, 37]) (As := []) (ks := [10, 9, 2, 1, 0]) (dd := []) (nx := 14017) (n := 100000) (g := bx2_g) (cond := bx2_cond) (fuel := (fun u v => runF (bx2_step u) v)) (read := bx2_read) (by kernel_rfl) (mbB_S51_ok) (mbB_L53_ok) 7 ⟨Try.f42, by kernel_rfl, by kernel_rfl⟩ (by kernel_rfl) (by kernel_rfl) (by kernel_rfl) bx2_step_eq bx2_hg bx2_read_ok
abbrev rbo_U : Type := Bool × (Ty.list (.prod (.int .i64) (.prod (.int .i64) (.int .i64)))).den × Int × Int × Int × Int × Int × Int × Int
abbrev rbo_V : Type := Int × Int × Int × Int × Int × Int × Int
noncomputable def rbo_St (u : rbo_U) (v : rbo_V) : Stt := ⟨[.one .junk, .one .junk, .one (.p 0 0), .one (.p 1 0), .one (.v false (.bool u.1)), .one (.p 12 0), .one (.p 13 0), .one .junk, .one .junk, .one .junk, .one .junk, .one .junk, .one .junk, .one .junk, .one .junk, .one .junk, .one .junk, .one .junk, .one .junk, .one .junk, .one (.d false false (.prod (.int .i64) (.prod (.int .i64) (.int .i64))) u.2.1), .one (.v false (.int .i64 u.2.2.1)), .one (.v false (.int .i64 v.1)), .one .junk, .one .junk, .one .junk, .one .junk, .one .junk, .one .junk, .one .junk, .one .junk, .one .junk, .one .junk, .one .junk, .one .junk, .one .junk, .one .junk, .one .junk, .one .junk, .one .junk, .one .junk, .one .junk, .one .junk, .one .junk, .one .junk, .one .junk, .one .junk, .one .junk, .one .junk, .one .junk, .one .junk, .one .junk, .one .junk, .one .junk, .one .junk, .one .junk, .one .junk, .one .junk, .one .junk, .one .junk, .one .junk], [(12, .cells [.v false (.int .i64 v.2.1), .v false (.int .i64 v.2.2.1), .v false (.int .i64 v.2.2.2.1)]), (13, .cells [.v false (.int .i64 v.2.2.2.2.1), .v false (.int .i64 v.2.2.2.2.2.1), .v false (.int .i64 v.2.2.2.2.2.2)]), (1, .cells [.v false (.int .i64 u.2.2.2.1), .v false (.int .i64 u.2.2.2.2.1), .v false (.int .i64 u.2.2.2.2.2.1)]), (0, .cells [.v false (.int .i64 u.2.2.2.2.2.2.1), .v false (.int .i64 u.2.2.2.2.2.2.2.1), .v false (.int .i64 u.2.2.2.2.2.2.2.2)])], 1019⟩
noncomputable def rbo_step (u : rbo_U) (v : rbo_V) : Tr (rbo_V ⊕ (Nat × rbo_V)) :=
  match u, v with
  | (_, q1, q2, _, _, _, _, _, _), (q3, q4, q5, q6, q7, q8, q9) => .br (decide (q3 < q2)) (.br (decide ((0 : Int) ≤ q3) && decide (q3 < (↑(List.length q1) : Int))) (.ret (.inl (IntKind.wrap IntKind.i64 (q3 + (1 : Int)), if Prod.fst (el_iii q1 q3) < q4 then Prod.fst (el_iii q1 q3) else q4, if Prod.fst (Prod.snd (el_iii q1 q3)) < q5 then Prod.fst (Prod.snd (el_iii q1 q3)) else q5, if Prod.snd (Prod.snd (el_iii q1 q3)) < q6 then Prod.snd (Prod.snd (el_iii q1 q3)) else q6, if Prod.fst (el_iii q1 q3) > q7 then Prod.fst (el_iii q1 q3) else q7, if Prod.fst (Prod.snd (el_iii q1 q3)) > q8 then Prod.fst (Prod.snd (el_iii q1 q3)) else q8, if Prod.snd (Prod.snd (el_iii q1 q3)) > q9 then Prod.snd (Prod.snd (el_iii q1 q3)) else q9))) (.bad 29)) (.ret (.inr (0, (q3, q4, q5, q6, q7, q8, q9))))
set_option maxRecDepth 100000 in
set_option maxHeartbeats 4000000 in
theorem rbo_step_eq : ∀ (u : rbo_U) (v : rbo_V), (evalC Try.prog (evalB Try.prog mbB_S51 (opens []) mbB_L54 7).1 (evalB Try.prog mbB_S51 (opens []) mbB_L54 7).2 (opens []) (mbB_L54 29) 100000 (0 :: [0, 1, 0, 1, 1, 1]) (loopOf (bodyOf Try.prog 29) [1, 1, 1, 0, 1, 0]) (rbo_St u v) []).bind (finF [0, 1, 7, 8, 9, 10, 11, 12, 13, 14, 15, 16, 17, 18, 19, 23, 24, 25, 26, 27, 28, 29, 30, 31, 32, 33, 34, 35, 36, 37, 38, 39, 40, 41, 42, 43, 44, 45, 46, 47, 48, 49, 50, 51, 52, 53, 54, 55, 56, 57, 58, 59, 60] [] [12, 13, 1, 0] [] 1019) = (rbo_step u v).bind (outA (rbo_St u) [.exit 0]) := by
  rintro ⟨q0, q1, q2, q10, q11, q12, q13, q14, q15⟩ ⟨q3, q4, q5, q6, q7, q8, q9⟩
  kernel_rfl
noncomputable def rbo_rd (b : Bool) (o2 : Option AV) (o3 : Option AV) (o4 : Option AV) (o5 : Option AV) (o6 : Option AV) (o20 : Option AV) (o21 : Option AV) (o22 : Option AV) (own : Own) : Option (rbo_U × rbo_V) := zrT b <| zrO o2 fun za1 => zrA1 za1 fun zc2 => zrP 0 0 zc2 <| zrO o3 fun za3 => zrA1 za3 fun zc4 => zrP 1 0 zc4 <| zrO o4 fun za5 => zrA1 za5 fun zc6 => zrB zc6 fun q0 => zrO o5 fun za7 => zrA1 za7 fun zc8 => zrP 12 0 zc8 <| zrO o6 fun za9 => zrA1 za9 fun zc10 => zrP 13 0 zc10 <| zrO o20 fun za11 => zrA1 za11 fun zc12 => zrD (.prod (.int .i64) (.prod (.int .i64) (.int .i64))) zc12 fun q1 => zrO o21 fun za13 => zrA1 za13 fun zc14 => zrI .i64 zc14 fun q2 => zrO o22 fun za15 => zrA1 za15 fun zc16 => zrI .i64 zc16 fun q3 => zrL own fun zq17 zw18 => zrKey 12 zq17 fun zk19 => zrC zk19 fun zl20 => zrL zl20 fun zc21 zr22 => zrI .i64 zc21 fun q4 => zrL zr22 fun zc23 zr24 => zrI .i64 zc23 fun q5 => zrL zr24 fun zc25 zr26 => zrI .i64 zc25 fun q6 => zrN zr26 <| zrL zw18 fun zq27 zw28 => zrKey 13 zq27 fun zk29 => zrC zk29 fun zl30 => zrL zl30 fun zc31 zr32 => zrI .i64 zc31 fun q7 => zrL zr32 fun zc33 zr34 => zrI .i64 zc33 fun q8 => zrL zr34 fun zc35 zr36 => zrI .i64 zc35 fun q9 => zrN zr36 <| zrL zw28 fun zq37 zw38 => zrKey 1 zq37 fun zk39 => zrC zk39 fun zl40 => zrL zl40 fun zc41 zr42 => zrI .i64 zc41 fun q10 => zrL zr42 fun zc43 zr44 => zrI .i64 zc43 fun q11 => zrL zr44 fun zc45 zr46 => zrI .i64 zc45 fun q12 => zrN zr46 <| zrL zw38 fun zq47 zw48 => zrKey 0 zq47 fun zk49 => zrC zk49 fun zl50 => zrL zl50 fun zc51 zr52 => zrI .i64 zc51 fun q13 => zrL zr52 fun zc53 zr54 => zrI .i64 zc53 fun q14 => zrL zr54 fun zc55 zr56 => zrI .i64 zc55 fun q15 => zrN zr56 <| zrN zw48 <| some ((q0, q1, q2, q10, q11, q12, q13, q14, q15), (q3, q4, q5, q6, q7, q8, q9))
noncomputable def rbo_can (st : Stt) : Stt := canA [0, 1, 7, 8, 9, 10, 11, 12, 13, 14, 15, 16, 17, 18, 19, 23, 24, 25, 26, 27, 28, 29, 30, 31, 32, 33, 34, 35, 36, 37, 38, 39, 40, 41, 42, 43, 44, 45, 46, 47, 48, 49, 50, 51, 52, 53, 54, 55, 56, 57, 58, 59, 60] [] [12, 13, 1, 0] [] 1019 st
noncomputable def rbo_cok (st : Stt) : Bool := canAok [0, 1, 7, 8, 9, 10, 11, 12, 13, 14, 15, 16, 17, 18, 19, 23, 24, 25, 26, 27, 28, 29, 30, 31, 32, 33, 34, 35, 36, 37, 38, 39, 40, 41, 42, 43, 44, 45, 46, 47, 48, 49, 50, 51, 52, 53, 54, 55, 56, 57, 58, 59, 60] [] [12, 13, 1, 0] [] 1019 st
noncomputable def rbo_read (st : Stt) : Option (rbo_U × rbo_V) := rbo_rd (rbo_cok st && (staysA [] [12, 13, 1, 0] st.own && juAll [0, 1, 7, 8, 9, 10, 11, 12, 13, 14, 15, 16, 17, 18, 19, 23, 24, 25, 26, 27, 28, 29, 30, 31, 32, 33, 34, 35, 36, 37, 38, 39, 40, 41, 42, 43, 44, 45, 46, 47, 48, 49, 50, 51, 52, 53, 54, 55, 56, 57, 58, 59, 60] (rbo_can st).tm 61)) (rbo_can st).tm[2]? (rbo_can st).tm[3]? (rbo_can st).tm[4]? (rbo_can st).tm[5]? (rbo_can st).tm[6]? (rbo_can st).tm[20]? (rbo_can st).tm[21]? (rbo_can st).tm[22]? (rbo_can st).own
set_option maxRecDepth 100000 in
set_option maxHeartbeats 4000000 in
theorem rbo_rd_ok {b : Bool} {tm : List AV} {own : Own} {u : rbo_U} {v : rbo_V} (hj : b = true → juAll [0, 1, 7, 8, 9, 10, 11, 12, 13, 14, 15, 16, 17, 18, 19, 23, 24, 25, 26, 27, 28, 29, 30, 31, 32, 33, 34, 35, 36, 37, 38, 39, 40, 41, 42, 43, 44, 45, 46, 47, 48, 49, 50, 51, 52, 53, 54, 55, 56, 57, 58, 59, 60] tm 61 = true) (h : rbo_rd b tm[2]? tm[3]? tm[4]? tm[5]? tm[6]? tm[20]? tm[21]? tm[22]? own = some (u, v)) : b = true ∧ tm = (rbo_St u v).tm ∧ own = (rbo_St u v).own := by
  unfold rbo_rd at h
  obtain ⟨rfl, h0⟩ := zrT_some h
  obtain ⟨za1, e2, h1⟩ := zrO_some h0
  obtain ⟨zc2, rfl, h2⟩ := zrA1_some h1
  obtain ⟨rfl, h3⟩ := zrP_some h2
  obtain ⟨za3, e3, h4⟩ := zrO_some h3
  obtain ⟨zc4, rfl, h5⟩ := zrA1_some h4
  obtain ⟨rfl, h6⟩ := zrP_some h5
  obtain ⟨za5, e4, h7⟩ := zrO_some h6
  obtain ⟨zc6, rfl, h8⟩ := zrA1_some h7
  obtain ⟨q0, rfl, h9⟩ := zrB_some h8
  obtain ⟨za7, e5, h10⟩ := zrO_some h9
  obtain ⟨zc8, rfl, h11⟩ := zrA1_some h10
  obtain ⟨rfl, h12⟩ := zrP_some h11
  obtain ⟨za9, e6, h13⟩ := zrO_some h12
  obtain ⟨zc10, rfl, h14⟩ := zrA1_some h13
  obtain ⟨rfl, h15⟩ := zrP_some h14
  obtain ⟨za11, e20, h16⟩ := zrO_some h15
  obtain ⟨zc12, rfl, h17⟩ := zrA1_some h16
  obtain ⟨q1, rfl, h18⟩ := zrD_some h17
  obtain ⟨za13, e21, h19⟩ := zrO_some h18
  obtain ⟨zc14, rfl, h20⟩ := zrA1_some h19
  obtain ⟨q2, rfl, h21⟩ := zrI_some h20
  obtain ⟨za15, e22, h22⟩ := zrO_some h21
  obtain ⟨zc16, rfl, h23⟩ := zrA1_some h22
  obtain ⟨q3, rfl, h24⟩ := zrI_some h23
  obtain ⟨zq17, zw18, rfl, h25⟩ := zrL_some h24
  obtain ⟨zk19, rfl, h26⟩ := zrKey_some h25
  obtain ⟨zl20, rfl, h27⟩ := zrC_some h26
  obtain ⟨zc21, zr22, rfl, h28⟩ := zrL_some h27
  obtain ⟨q4, rfl, h29⟩ := zrI_some h28
  obtain ⟨zc23, zr24, rfl, h30⟩ := zrL_some h29
  obtain ⟨q5, rfl, h31⟩ := zrI_some h30
  obtain ⟨zc25, zr26, rfl, h32⟩ := zrL_some h31
  obtain ⟨q6, rfl, h33⟩ := zrI_some h32
  obtain ⟨rfl, h34⟩ := zrN_some h33
  obtain ⟨zq27, zw28, rfl, h35⟩ := zrL_some h34
  obtain ⟨zk29, rfl, h36⟩ := zrKey_some h35
  obtain ⟨zl30, rfl, h37⟩ := zrC_some h36
  obtain ⟨zc31, zr32, rfl, h38⟩ := zrL_some h37
  obtain ⟨q7, rfl, h39⟩ := zrI_some h38
  obtain ⟨zc33, zr34, rfl, h40⟩ := zrL_some h39
  obtain ⟨q8, rfl, h41⟩ := zrI_some h40
  obtain ⟨zc35, zr36, rfl, h42⟩ := zrL_some h41
  obtain ⟨q9, rfl, h43⟩ := zrI_some h42
  obtain ⟨rfl, h44⟩ := zrN_some h43
  obtain ⟨zq37, zw38, rfl, h45⟩ := zrL_some h44
  obtain ⟨zk39, rfl, h46⟩ := zrKey_some h45
  obtain ⟨zl40, rfl, h47⟩ := zrC_some h46
  obtain ⟨zc41, zr42, rfl, h48⟩ := zrL_some h47
  obtain ⟨q10, rfl, h49⟩ := zrI_some h48
  obtain ⟨zc43, zr44, rfl, h50⟩ := zrL_some h49
  obtain ⟨q11, rfl, h51⟩ := zrI_some h50
  obtain ⟨zc45, zr46, rfl, h52⟩ := zrL_some h51
  obtain ⟨q12, rfl, h53⟩ := zrI_some h52
  obtain ⟨rfl, h54⟩ := zrN_some h53
  obtain ⟨zq47, zw48, rfl, h55⟩ := zrL_some h54
  obtain ⟨zk49, rfl, h56⟩ := zrKey_some h55
  obtain ⟨zl50, rfl, h57⟩ := zrC_some h56
  obtain ⟨zc51, zr52, rfl, h58⟩ := zrL_some h57
  obtain ⟨q13, rfl, h59⟩ := zrI_some h58
  obtain ⟨zc53, zr54, rfl, h60⟩ := zrL_some h59
  obtain ⟨q14, rfl, h61⟩ := zrI_some h60
  obtain ⟨zc55, zr56, rfl, h62⟩ := zrL_some h61
  obtain ⟨q15, rfl, h63⟩ := zrI_some h62
  obtain ⟨rfl, h64⟩ := zrN_some h63
  obtain ⟨rfl, h65⟩ := zrN_some h64
  have h := Option.some.inj h65
  have hu := congrArg Prod.fst h
  have hv := congrArg Prod.snd h
  dsimp only at hu hv
  subst hu
  subst hv
  exact ⟨rfl, (tm_fill (hj rfl) (Lv := [(2, .one (.p 0 0)), (3, .one (.p 1 0)), (4, .one (.v false (.bool q0))), (5, .one (.p 12 0)), (6, .one (.p 13 0)), (20, .one (.d false false (.prod (.int .i64) (.prod (.int .i64) (.int .i64))) q1)), (21, .one (.v false (.int .i64 q2))), (22, .one (.v false (.int .i64 q3)))]) (by kernel_rfl) ⟨e2, e3, e4, e5, e6, e20, e21, e22, trivial⟩).trans (by kernel_rfl), rfl⟩
theorem rbo_read_ok (st : Stt) (u : rbo_U) (v : rbo_V) (h : rbo_read st = some (u, v)) : rbo_cok st = true ∧ staysA [] [12, 13, 1, 0] st.own = true ∧ rbo_can st = rbo_St u v := by
  obtain ⟨h1, h2, h3⟩ := rbo_rd_ok (fun hb => by rw [Bool.and_eq_true, Bool.and_eq_true] at hb; exact hb.2.2) h
  rw [Bool.and_eq_true, Bool.and_eq_true] at h1
  refine ⟨h1.1, h1.2.1, ?_⟩
  have e : rbo_can st = ⟨(rbo_can st).tm, (rbo_can st).own, 1019⟩ := by kernel_rfl
  rw [e, h2, h3]
  rfl
noncomputable def rbo_cond (u : rbo_U) (v : rbo_V) : Bool := runC (rbo_step u) v
noncomputable def rbo_g (u : rbo_U) (v : rbo_V) : Nat × rbo_V := runG (rbo_step u) v
theorem rbo_hg : ∀ (u : rbo_U) (v : rbo_V), rbo_cond u v = true → loopN (rbo_step u) ((fun u v => runF (rbo_step u) v) u v) v = some (rbo_g u v) := by
  exact fun u v h => run_hg h
noncomputable def rbo_m (st : Stt) : Option (Tr (Ex × Stt)) := sumM rbo_read rbo_cond rbo_St rbo_g [(0, .exit 0)] st
noncomputable def mbB_L55 : FuncId → Loops := addL 29 [0, 1, 0, 1, 1, 1] rbo_m mbB_L54
set_option maxRecDepth 100000 in
set_option maxHeartbeats 4000000 in
theorem mbB_L55_ok : LoopsOK Try.prog mbB_L55 :=
  loop_sumF (body := (bodyOf Try.prog 29)) (c := (loopOf (bodyOf Try.prog 29) [1, 1, 1, 0, 1, 0])) (kinds := [.exit 0]) (allow := [(0, .exit 0)]) (St := rbo_St) (step := rbo_step) (W := [0, 1, 7, 8, 9, 10, 11, 12, 13, 14, 15, 16, 17, 18, 19, 23, 24, 25, 26, 27, 28, 29, 30, 31, 32, 33, 34, 35, 36, 37, 38, 39, 40, 41, 42, 43, 44, 45, 46, 47, 48, 49, 50, 51, 52, 53, 54, 55, 56, 57, 58, 59, 60]) (As := []) (ks := [12, 13, 1, 0]) (dd := []) (nx := 1019) (n := 100000) (g := rbo_g) (cond := rbo_cond) (fuel := (fun u v => runF (rbo_step u) v)) (read := rbo_read) (by kernel_rfl) (mbB_S51_ok) (mbB_L54_ok) 7 ⟨Try.f29, by kernel_rfl, by kernel_rfl⟩ (by kernel_rfl) (by kernel_rfl) (by kernel_rfl) rbo_step_eq rbo_hg rbo_read_ok
def loS (f : Int × (Int × Int) → Int) (V : List (Int × (Int × Int))) : Nat → Int
  | 0 => f (el_iii V 0)
  | j + 1 => if f (el_iii V (j : Int)) < loS f V j then f (el_iii V (j : Int)) else loS f V j
def hiS (f : Int × (Int × Int) → Int) (V : List (Int × (Int × Int))) : Nat → Int
  | 0 => f (el_iii V 0)
  | j + 1 => if f (el_iii V (j : Int)) > hiS f V j then f (el_iii V (j : Int)) else hiS f V j
def f0 (v : Int × (Int × Int)) : Int := v.1
def f1 (v : Int × (Int × Int)) : Int := v.2.1
def f2 (v : Int × (Int × Int)) : Int := v.2.2
def bl (f : Int × (Int × Int) → Int) (V : List (Int × (Int × Int))) : Int := bif (V.length : Int) == 0 then 0 else loS f V V.length
def bh (f : Int × (Int × Int) → Int) (V : List (Int × (Int × Int))) : Int := bif (V.length : Int) == 0 then 0 else hiS f V V.length
theorem bx0_run {V V' : List (Int × (Int × Int))} (c0 c1 c2 c3 c4 c5 c6 c7 c8 c9 c10 c11 c12 c13 : Int) (h : V.length ≤ 10000) : bx0_cond (c12, c13, V, (V.length : Int), c0, c1, c2, c3, c4, c5, c6, c7, c8, c9, c10, c11, V') ((el_iii V 0).1, (el_iii V 0).1, (0 : Int)) = true ∧ bx0_g (c12, c13, V, (V.length : Int), c0, c1, c2, c3, c4, c5, c6, c7, c8, c9, c10, c11, V') ((el_iii V 0).1, (el_iii V 0).1, (0 : Int)) = (0, (loS f0 V V.length, hiS f0 V V.length, (V.length : Int))) := by
  refine run_steps (step := bx0_step (c12, c13, V, (V.length : Int), c0, c1, c2, c3, c4, c5, c6, c7, c8, c9, c10, c11, V')) (St := fun j => (loS f0 V j, hiS f0 V j, (j : Int))) (n := V.length) (t := (0, (loS f0 V V.length, hiS f0 V V.length, (V.length : Int)))) ?_ V.length 0 (Nat.zero_add _) (fun j _ hj => ?_)
  · simp only [bx0_step, Tr.val, Int.lt_irrefl, decide_false, cond_false]
  · have c1' : decide ((j : Int) < (V.length : Int)) = true := decide_eq_true (by omega)
    have c2' : decide ((0 : Int) ≤ (j : Int)) = true := decide_eq_true (by omega)
    have w1 : IntKind.wrap IntKind.i64 ((j : Int) + 1) = ((j + 1 : Nat) : Int) := by rw [wid (by omega) (by omega)]; omega
    simp only [bx0_step, Tr.val, c1', c2', w1, Bool.and_self, cond_true]
    rfl
theorem bx1_run {V V' : List (Int × (Int × Int))} (c0 c1 c2 c3 c4 c5 c6 c7 c8 c9 c10 c11 c12 c13 : Int) (h : V.length ≤ 10000) : bx1_cond (c12, c13, V, (V.length : Int), c0, c1, c2, c3, c4, c5, c6, c7, c8, c9, c10, c11, V') ((el_iii V 0).2.1, (el_iii V 0).2.1, (0 : Int)) = true ∧ bx1_g (c12, c13, V, (V.length : Int), c0, c1, c2, c3, c4, c5, c6, c7, c8, c9, c10, c11, V') ((el_iii V 0).2.1, (el_iii V 0).2.1, (0 : Int)) = (0, (loS f1 V V.length, hiS f1 V V.length, (V.length : Int))) := by
  refine run_steps (step := bx1_step (c12, c13, V, (V.length : Int), c0, c1, c2, c3, c4, c5, c6, c7, c8, c9, c10, c11, V')) (St := fun j => (loS f1 V j, hiS f1 V j, (j : Int))) (n := V.length) (t := (0, (loS f1 V V.length, hiS f1 V V.length, (V.length : Int)))) ?_ V.length 0 (Nat.zero_add _) (fun j _ hj => ?_)
  · simp only [bx1_step, Tr.val, Int.lt_irrefl, decide_false, cond_false]
  · have c1' : decide ((j : Int) < (V.length : Int)) = true := decide_eq_true (by omega)
    have c2' : decide ((0 : Int) ≤ (j : Int)) = true := decide_eq_true (by omega)
    have w1 : IntKind.wrap IntKind.i64 ((j : Int) + 1) = ((j + 1 : Nat) : Int) := by rw [wid (by omega) (by omega)]; omega
    simp only [bx1_step, Tr.val, c1', c2', w1, Bool.and_self, cond_true]
    rfl
theorem bx2_run {V V' : List (Int × (Int × Int))} (c0 c1 c2 c3 c4 c5 c6 c7 c8 c9 c10 c11 c12 c13 : Int) (h : V.length ≤ 10000) : bx2_cond (c12, c13, V, (V.length : Int), c0, c1, c2, c3, c4, c5, c6, c7, c8, c9, c10, c11, V') ((el_iii V 0).2.2, (el_iii V 0).2.2, (0 : Int)) = true ∧ bx2_g (c12, c13, V, (V.length : Int), c0, c1, c2, c3, c4, c5, c6, c7, c8, c9, c10, c11, V') ((el_iii V 0).2.2, (el_iii V 0).2.2, (0 : Int)) = (0, (loS f2 V V.length, hiS f2 V V.length, (V.length : Int))) := by
  refine run_steps (step := bx2_step (c12, c13, V, (V.length : Int), c0, c1, c2, c3, c4, c5, c6, c7, c8, c9, c10, c11, V')) (St := fun j => (loS f2 V j, hiS f2 V j, (j : Int))) (n := V.length) (t := (0, (loS f2 V V.length, hiS f2 V V.length, (V.length : Int)))) ?_ V.length 0 (Nat.zero_add _) (fun j _ hj => ?_)
  · simp only [bx2_step, Tr.val, Int.lt_irrefl, decide_false, cond_false]
  · have c1' : decide ((j : Int) < (V.length : Int)) = true := decide_eq_true (by omega)
    have c2' : decide ((0 : Int) ≤ (j : Int)) = true := decide_eq_true (by omega)
    have w1 : IntKind.wrap IntKind.i64 ((j : Int) + 1) = ((j + 1 : Nat) : Int) := by rw [wid (by omega) (by omega)]; omega
    simp only [bx2_step, Tr.val, c1', c2', w1, Bool.and_self, cond_true]
    rfl
theorem rbo_run {V : List (Int × (Int × Int))} (b : Bool) (c0 c1 c2 c3 c4 c5 : Int) (h : V.length ≤ 10000) : rbo_cond (b, V, (V.length : Int), c0, c1, c2, c3, c4, c5) ((0 : Int), (el_iii V 0).1, (el_iii V 0).2.1, (el_iii V 0).2.2, (el_iii V 0).1, (el_iii V 0).2.1, (el_iii V 0).2.2) = true ∧ rbo_g (b, V, (V.length : Int), c0, c1, c2, c3, c4, c5) ((0 : Int), (el_iii V 0).1, (el_iii V 0).2.1, (el_iii V 0).2.2, (el_iii V 0).1, (el_iii V 0).2.1, (el_iii V 0).2.2) = (0, ((V.length : Int), loS f0 V V.length, loS f1 V V.length, loS f2 V V.length, hiS f0 V V.length, hiS f1 V V.length, hiS f2 V V.length)) := by
  refine run_steps (step := rbo_step (b, V, (V.length : Int), c0, c1, c2, c3, c4, c5)) (St := fun j => ((j : Int), loS f0 V j, loS f1 V j, loS f2 V j, hiS f0 V j, hiS f1 V j, hiS f2 V j)) (n := V.length) (t := (0, ((V.length : Int), loS f0 V V.length, loS f1 V V.length, loS f2 V V.length, hiS f0 V V.length, hiS f1 V V.length, hiS f2 V V.length))) ?_ V.length 0 (Nat.zero_add _) (fun j _ hj => ?_)
  · simp only [rbo_step, Tr.val, Int.lt_irrefl, decide_false, cond_false]
  · have c1' : decide ((j : Int) < (V.length : Int)) = true := decide_eq_true (by omega)
    have c2' : decide ((0 : Int) ≤ (j : Int)) = true := decide_eq_true (by omega)
    have w1 : IntKind.wrap IntKind.i64 ((j : Int) + 1) = ((j + 1 : Nat) : Int) := by rw [wid (by omega) (by omega)]; omega
    simp only [rbo_step, Tr.val, c1', c2', w1, Bool.and_self, cond_true]
    rfl
set_option maxRecDepth 100000 in
theorem vbc_tree (V : (Ty.list (.prod (.int .i64) (.prod (.int .i64) (.int .i64)))).den) : evalF Try.prog mbB_S51 (opens []) mbB_L55 9 27 [.one (.d false false (.prod (.int .i64) (.prod (.int .i64) (.int .i64))) V)] = .br ((bif (↑(List.length V) : Int) == (0 : Int) then true else ((decide ((0 : Int) ≤ (0 : Int)) && decide ((0 : Int) < (↑(List.length V) : Int))) && ((decide ((0 : Int) ≤ (0 : Int)) && decide ((0 : Int) < (↑(List.length V) : Int))) && ((bx0_cond ((0 : Int), (0 : Int), V, (↑(List.length V) : Int), (0 : Int), (0 : Int), (0 : Int), (0 : Int), (0 : Int), (0 : Int), (0 : Int), (0 : Int), (0 : Int), (0 : Int), (0 : Int), (0 : Int), V) (Prod.fst (el_iii V (0 : Int)), Prod.fst (el_iii V (0 : Int)), (0 : Int))) && ((Nat.beq (Prod.fst (bx0_g ((0 : Int), (0 : Int), V, (↑(List.length V) : Int), (0 : Int), (0 : Int), (0 : Int), (0 : Int), (0 : Int), (0 : Int), (0 : Int), (0 : Int), (0 : Int), (0 : Int), (0 : Int), (0 : Int), V) (Prod.fst (el_iii V (0 : Int)), Prod.fst (el_iii V (0 : Int)), (0 : Int)))) (0 : Nat)) && ((decide ((0 : Int) ≤ (0 : Int)) && decide ((0 : Int) < (↑(List.length V) : Int))) && ((decide ((0 : Int) ≤ (0 : Int)) && decide ((0 : Int) < (↑(List.length V) : Int))) && ((bx1_cond ((0 : Int), (0 : Int), V, (↑(List.length V) : Int), Prod.fst (Prod.snd (Prod.snd (bx0_g ((0 : Int), (0 : Int), V, (↑(List.length V) : Int), (0 : Int), (0 : Int), (0 : Int), (0 : Int), (0 : Int), (0 : Int), (0 : Int), (0 : Int), (0 : Int), (0 : Int), (0 : Int), (0 : Int), V) (Prod.fst (el_iii V (0 : Int)), Prod.fst (el_iii V (0 : Int)), (0 : Int))))), (0 : Int), (0 : Int), Prod.fst (Prod.snd (bx0_g ((0 : Int), (0 : Int), V, (↑(List.length V) : Int), (0 : Int), (0 : Int), (0 : Int), (0 : Int), (0 : Int), (0 : Int), (0 : Int), (0 : Int), (0 : Int), (0 : Int), (0 : Int), (0 : Int), V) (Prod.fst (el_iii V (0 : Int)), Prod.fst (el_iii V (0 : Int)), (0 : Int)))), (0 : Int), (0 : Int), (0 : Int), (0 : Int), (0 : Int), (0 : Int), (0 : Int), (0 : Int), V) (Prod.fst (Prod.snd (el_iii V (0 : Int))), Prod.fst (Prod.snd (el_iii V (0 : Int))), (0 : Int))) && ((Nat.beq (Prod.fst (bx1_g ((0 : Int), (0 : Int), V, (↑(List.length V) : Int), Prod.fst (Prod.snd (Prod.snd (bx0_g ((0 : Int), (0 : Int), V, (↑(List.length V) : Int), (0 : Int), (0 : Int), (0 : Int), (0 : Int), (0 : Int), (0 : Int), (0 : Int), (0 : Int), (0 : Int), (0 : Int), (0 : Int), (0 : Int), V) (Prod.fst (el_iii V (0 : Int)), Prod.fst (el_iii V (0 : Int)), (0 : Int))))), (0 : Int), (0 : Int), Prod.fst (Prod.snd (bx0_g ((0 : Int), (0 : Int), V, (↑(List.length V) : Int), (0 : Int), (0 : Int), (0 : Int), (0 : Int), (0 : Int), (0 : Int), (0 : Int), (0 : Int), (0 : Int), (0 : Int), (0 : Int), (0 : Int), V) (Prod.fst (el_iii V (0 : Int)), Prod.fst (el_iii V (0 : Int)), (0 : Int)))), (0 : Int), (0 : Int), (0 : Int), (0 : Int), (0 : Int), (0 : Int), (0 : Int), (0 : Int), V) (Prod.fst (Prod.snd (el_iii V (0 : Int))), Prod.fst (Prod.snd (el_iii V (0 : Int))), (0 : Int)))) (0 : Nat)) && ((decide ((0 : Int) ≤ (0 : Int)) && decide ((0 : Int) < (↑(List.length V) : Int))) && ((decide ((0 : Int) ≤ (0 : Int)) && decide ((0 : Int) < (↑(List.length V) : Int))) && ((bx2_cond ((0 : Int), (0 : Int), V, (↑(List.length V) : Int), Prod.fst (Prod.snd (Prod.snd (bx0_g ((0 : Int), (0 : Int), V, (↑(List.length V) : Int), (0 : Int), (0 : Int), (0 : Int), (0 : Int), (0 : Int), (0 : Int), (0 : Int), (0 : Int), (0 : Int), (0 : Int), (0 : Int), (0 : Int), V) (Prod.fst (el_iii V (0 : Int)), Prod.fst (el_iii V (0 : Int)), (0 : Int))))), Prod.fst (Prod.snd (Prod.snd (bx1_g ((0 : Int), (0 : Int), V, (↑(List.length V) : Int), Prod.fst (Prod.snd (Prod.snd (bx0_g ((0 : Int), (0 : Int), V, (↑(List.length V) : Int), (0 : Int), (0 : Int), (0 : Int), (0 : Int), (0 : Int), (0 : Int), (0 : Int), (0 : Int), (0 : Int), (0 : Int), (0 : Int), (0 : Int), V) (Prod.fst (el_iii V (0 : Int)), Prod.fst (el_iii V (0 : Int)), (0 : Int))))), (0 : Int), (0 : Int), Prod.fst (Prod.snd (bx0_g ((0 : Int), (0 : Int), V, (↑(List.length V) : Int), (0 : Int), (0 : Int), (0 : Int), (0 : Int), (0 : Int), (0 : Int), (0 : Int), (0 : Int), (0 : Int), (0 : Int), (0 : Int), (0 : Int), V) (Prod.fst (el_iii V (0 : Int)), Prod.fst (el_iii V (0 : Int)), (0 : Int)))), (0 : Int), (0 : Int), (0 : Int), (0 : Int), (0 : Int), (0 : Int), (0 : Int), (0 : Int), V) (Prod.fst (Prod.snd (el_iii V (0 : Int))), Prod.fst (Prod.snd (el_iii V (0 : Int))), (0 : Int))))), (0 : Int), Prod.fst (Prod.snd (bx0_g ((0 : Int), (0 : Int), V, (↑(List.length V) : Int), (0 : Int), (0 : Int), (0 : Int), (0 : Int), (0 : Int), (0 : Int), (0 : Int), (0 : Int), (0 : Int), (0 : Int), (0 : Int), (0 : Int), V) (Prod.fst (el_iii V (0 : Int)), Prod.fst (el_iii V (0 : Int)), (0 : Int)))), Prod.fst (Prod.snd (bx1_g ((0 : Int), (0 : Int), V, (↑(List.length V) : Int), Prod.fst (Prod.snd (Prod.snd (bx0_g ((0 : Int), (0 : Int), V, (↑(List.length V) : Int), (0 : Int), (0 : Int), (0 : Int), (0 : Int), (0 : Int), (0 : Int), (0 : Int), (0 : Int), (0 : Int), (0 : Int), (0 : Int), (0 : Int), V) (Prod.fst (el_iii V (0 : Int)), Prod.fst (el_iii V (0 : Int)), (0 : Int))))), (0 : Int), (0 : Int), Prod.fst (Prod.snd (bx0_g ((0 : Int), (0 : Int), V, (↑(List.length V) : Int), (0 : Int), (0 : Int), (0 : Int), (0 : Int), (0 : Int), (0 : Int), (0 : Int), (0 : Int), (0 : Int), (0 : Int), (0 : Int), (0 : Int), V) (Prod.fst (el_iii V (0 : Int)), Prod.fst (el_iii V (0 : Int)), (0 : Int)))), (0 : Int), (0 : Int), (0 : Int), (0 : Int), (0 : Int), (0 : Int), (0 : Int), (0 : Int), V) (Prod.fst (Prod.snd (el_iii V (0 : Int))), Prod.fst (Prod.snd (el_iii V (0 : Int))), (0 : Int)))), (0 : Int), (0 : Int), (0 : Int), (0 : Int), (0 : Int), (0 : Int), (0 : Int), V) (Prod.snd (Prod.snd (el_iii V (0 : Int))), Prod.snd (Prod.snd (el_iii V (0 : Int))), (0 : Int))) && (Nat.beq (Prod.fst (bx2_g ((0 : Int), (0 : Int), V, (↑(List.length V) : Int), Prod.fst (Prod.snd (Prod.snd (bx0_g ((0 : Int), (0 : Int), V, (↑(List.length V) : Int), (0 : Int), (0 : Int), (0 : Int), (0 : Int), (0 : Int), (0 : Int), (0 : Int), (0 : Int), (0 : Int), (0 : Int), (0 : Int), (0 : Int), V) (Prod.fst (el_iii V (0 : Int)), Prod.fst (el_iii V (0 : Int)), (0 : Int))))), Prod.fst (Prod.snd (Prod.snd (bx1_g ((0 : Int), (0 : Int), V, (↑(List.length V) : Int), Prod.fst (Prod.snd (Prod.snd (bx0_g ((0 : Int), (0 : Int), V, (↑(List.length V) : Int), (0 : Int), (0 : Int), (0 : Int), (0 : Int), (0 : Int), (0 : Int), (0 : Int), (0 : Int), (0 : Int), (0 : Int), (0 : Int), (0 : Int), V) (Prod.fst (el_iii V (0 : Int)), Prod.fst (el_iii V (0 : Int)), (0 : Int))))), (0 : Int), (0 : Int), Prod.fst (Prod.snd (bx0_g ((0 : Int), (0 : Int), V, (↑(List.length V) : Int), (0 : Int), (0 : Int), (0 : Int), (0 : Int), (0 : Int), (0 : Int), (0 : Int), (0 : Int), (0 : Int), (0 : Int), (0 : Int), (0 : Int), V) (Prod.fst (el_iii V (0 : Int)), Prod.fst (el_iii V (0 : Int)), (0 : Int)))), (0 : Int), (0 : Int), (0 : Int), (0 : Int), (0 : Int), (0 : Int), (0 : Int), (0 : Int), V) (Prod.fst (Prod.snd (el_iii V (0 : Int))), Prod.fst (Prod.snd (el_iii V (0 : Int))), (0 : Int))))), (0 : Int), Prod.fst (Prod.snd (bx0_g ((0 : Int), (0 : Int), V, (↑(List.length V) : Int), (0 : Int), (0 : Int), (0 : Int), (0 : Int), (0 : Int), (0 : Int), (0 : Int), (0 : Int), (0 : Int), (0 : Int), (0 : Int), (0 : Int), V) (Prod.fst (el_iii V (0 : Int)), Prod.fst (el_iii V (0 : Int)), (0 : Int)))), Prod.fst (Prod.snd (bx1_g ((0 : Int), (0 : Int), V, (↑(List.length V) : Int), Prod.fst (Prod.snd (Prod.snd (bx0_g ((0 : Int), (0 : Int), V, (↑(List.length V) : Int), (0 : Int), (0 : Int), (0 : Int), (0 : Int), (0 : Int), (0 : Int), (0 : Int), (0 : Int), (0 : Int), (0 : Int), (0 : Int), (0 : Int), V) (Prod.fst (el_iii V (0 : Int)), Prod.fst (el_iii V (0 : Int)), (0 : Int))))), (0 : Int), (0 : Int), Prod.fst (Prod.snd (bx0_g ((0 : Int), (0 : Int), V, (↑(List.length V) : Int), (0 : Int), (0 : Int), (0 : Int), (0 : Int), (0 : Int), (0 : Int), (0 : Int), (0 : Int), (0 : Int), (0 : Int), (0 : Int), (0 : Int), V) (Prod.fst (el_iii V (0 : Int)), Prod.fst (el_iii V (0 : Int)), (0 : Int)))), (0 : Int), (0 : Int), (0 : Int), (0 : Int), (0 : Int), (0 : Int), (0 : Int), (0 : Int), V) (Prod.fst (Prod.snd (el_iii V (0 : Int))), Prod.fst (Prod.snd (el_iii V (0 : Int))), (0 : Int)))), (0 : Int), (0 : Int), (0 : Int), (0 : Int), (0 : Int), (0 : Int), (0 : Int), V) (Prod.snd (Prod.snd (el_iii V (0 : Int))), Prod.snd (Prod.snd (el_iii V (0 : Int))), (0 : Int)))) (0 : Nat))))))))))))))) (.ret (.tup [(true, [.v false (.int .i64 (bif (↑(List.length V) : Int) == (0 : Int) then (0 : Int) else Prod.fst (Prod.snd (bx0_g ((0 : Int), (0 : Int), V, (↑(List.length V) : Int), (0 : Int), (0 : Int), (0 : Int), (0 : Int), (0 : Int), (0 : Int), (0 : Int), (0 : Int), (0 : Int), (0 : Int), (0 : Int), (0 : Int), V) (Prod.fst (el_iii V (0 : Int)), Prod.fst (el_iii V (0 : Int)), (0 : Int)))))), .v false (.int .i64 (bif (↑(List.length V) : Int) == (0 : Int) then (0 : Int) else Prod.fst (Prod.snd (bx1_g ((0 : Int), (0 : Int), V, (↑(List.length V) : Int), Prod.fst (Prod.snd (Prod.snd (bx0_g ((0 : Int), (0 : Int), V, (↑(List.length V) : Int), (0 : Int), (0 : Int), (0 : Int), (0 : Int), (0 : Int), (0 : Int), (0 : Int), (0 : Int), (0 : Int), (0 : Int), (0 : Int), (0 : Int), V) (Prod.fst (el_iii V (0 : Int)), Prod.fst (el_iii V (0 : Int)), (0 : Int))))), (0 : Int), (0 : Int), Prod.fst (Prod.snd (bx0_g ((0 : Int), (0 : Int), V, (↑(List.length V) : Int), (0 : Int), (0 : Int), (0 : Int), (0 : Int), (0 : Int), (0 : Int), (0 : Int), (0 : Int), (0 : Int), (0 : Int), (0 : Int), (0 : Int), V) (Prod.fst (el_iii V (0 : Int)), Prod.fst (el_iii V (0 : Int)), (0 : Int)))), (0 : Int), (0 : Int), (0 : Int), (0 : Int), (0 : Int), (0 : Int), (0 : Int), (0 : Int), V) (Prod.fst (Prod.snd (el_iii V (0 : Int))), Prod.fst (Prod.snd (el_iii V (0 : Int))), (0 : Int)))))), .v false (.int .i64 (bif (↑(List.length V) : Int) == (0 : Int) then (0 : Int) else Prod.fst (Prod.snd (bx2_g ((0 : Int), (0 : Int), V, (↑(List.length V) : Int), Prod.fst (Prod.snd (Prod.snd (bx0_g ((0 : Int), (0 : Int), V, (↑(List.length V) : Int), (0 : Int), (0 : Int), (0 : Int), (0 : Int), (0 : Int), (0 : Int), (0 : Int), (0 : Int), (0 : Int), (0 : Int), (0 : Int), (0 : Int), V) (Prod.fst (el_iii V (0 : Int)), Prod.fst (el_iii V (0 : Int)), (0 : Int))))), Prod.fst (Prod.snd (Prod.snd (bx1_g ((0 : Int), (0 : Int), V, (↑(List.length V) : Int), Prod.fst (Prod.snd (Prod.snd (bx0_g ((0 : Int), (0 : Int), V, (↑(List.length V) : Int), (0 : Int), (0 : Int), (0 : Int), (0 : Int), (0 : Int), (0 : Int), (0 : Int), (0 : Int), (0 : Int), (0 : Int), (0 : Int), (0 : Int), V) (Prod.fst (el_iii V (0 : Int)), Prod.fst (el_iii V (0 : Int)), (0 : Int))))), (0 : Int), (0 : Int), Prod.fst (Prod.snd (bx0_g ((0 : Int), (0 : Int), V, (↑(List.length V) : Int), (0 : Int), (0 : Int), (0 : Int), (0 : Int), (0 : Int), (0 : Int), (0 : Int), (0 : Int), (0 : Int), (0 : Int), (0 : Int), (0 : Int), V) (Prod.fst (el_iii V (0 : Int)), Prod.fst (el_iii V (0 : Int)), (0 : Int)))), (0 : Int), (0 : Int), (0 : Int), (0 : Int), (0 : Int), (0 : Int), (0 : Int), (0 : Int), V) (Prod.fst (Prod.snd (el_iii V (0 : Int))), Prod.fst (Prod.snd (el_iii V (0 : Int))), (0 : Int))))), (0 : Int), Prod.fst (Prod.snd (bx0_g ((0 : Int), (0 : Int), V, (↑(List.length V) : Int), (0 : Int), (0 : Int), (0 : Int), (0 : Int), (0 : Int), (0 : Int), (0 : Int), (0 : Int), (0 : Int), (0 : Int), (0 : Int), (0 : Int), V) (Prod.fst (el_iii V (0 : Int)), Prod.fst (el_iii V (0 : Int)), (0 : Int)))), Prod.fst (Prod.snd (bx1_g ((0 : Int), (0 : Int), V, (↑(List.length V) : Int), Prod.fst (Prod.snd (Prod.snd (bx0_g ((0 : Int), (0 : Int), V, (↑(List.length V) : Int), (0 : Int), (0 : Int), (0 : Int), (0 : Int), (0 : Int), (0 : Int), (0 : Int), (0 : Int), (0 : Int), (0 : Int), (0 : Int), (0 : Int), V) (Prod.fst (el_iii V (0 : Int)), Prod.fst (el_iii V (0 : Int)), (0 : Int))))), (0 : Int), (0 : Int), Prod.fst (Prod.snd (bx0_g ((0 : Int), (0 : Int), V, (↑(List.length V) : Int), (0 : Int), (0 : Int), (0 : Int), (0 : Int), (0 : Int), (0 : Int), (0 : Int), (0 : Int), (0 : Int), (0 : Int), (0 : Int), (0 : Int), V) (Prod.fst (el_iii V (0 : Int)), Prod.fst (el_iii V (0 : Int)), (0 : Int)))), (0 : Int), (0 : Int), (0 : Int), (0 : Int), (0 : Int), (0 : Int), (0 : Int), (0 : Int), V) (Prod.fst (Prod.snd (el_iii V (0 : Int))), Prod.fst (Prod.snd (el_iii V (0 : Int))), (0 : Int)))), (0 : Int), (0 : Int), (0 : Int), (0 : Int), (0 : Int), (0 : Int), (0 : Int), V) (Prod.snd (Prod.snd (el_iii V (0 : Int))), Prod.snd (Prod.snd (el_iii V (0 : Int))), (0 : Int))))))]), (true, [.v false (.int .i64 (bif (↑(List.length V) : Int) == (0 : Int) then (0 : Int) else Prod.fst (Prod.snd (Prod.snd (bx0_g ((0 : Int), (0 : Int), V, (↑(List.length V) : Int), (0 : Int), (0 : Int), (0 : Int), (0 : Int), (0 : Int), (0 : Int), (0 : Int), (0 : Int), (0 : Int), (0 : Int), (0 : Int), (0 : Int), V) (Prod.fst (el_iii V (0 : Int)), Prod.fst (el_iii V (0 : Int)), (0 : Int))))))), .v false (.int .i64 (bif (↑(List.length V) : Int) == (0 : Int) then (0 : Int) else Prod.fst (Prod.snd (Prod.snd (bx1_g ((0 : Int), (0 : Int), V, (↑(List.length V) : Int), Prod.fst (Prod.snd (Prod.snd (bx0_g ((0 : Int), (0 : Int), V, (↑(List.length V) : Int), (0 : Int), (0 : Int), (0 : Int), (0 : Int), (0 : Int), (0 : Int), (0 : Int), (0 : Int), (0 : Int), (0 : Int), (0 : Int), (0 : Int), V) (Prod.fst (el_iii V (0 : Int)), Prod.fst (el_iii V (0 : Int)), (0 : Int))))), (0 : Int), (0 : Int), Prod.fst (Prod.snd (bx0_g ((0 : Int), (0 : Int), V, (↑(List.length V) : Int), (0 : Int), (0 : Int), (0 : Int), (0 : Int), (0 : Int), (0 : Int), (0 : Int), (0 : Int), (0 : Int), (0 : Int), (0 : Int), (0 : Int), V) (Prod.fst (el_iii V (0 : Int)), Prod.fst (el_iii V (0 : Int)), (0 : Int)))), (0 : Int), (0 : Int), (0 : Int), (0 : Int), (0 : Int), (0 : Int), (0 : Int), (0 : Int), V) (Prod.fst (Prod.snd (el_iii V (0 : Int))), Prod.fst (Prod.snd (el_iii V (0 : Int))), (0 : Int))))))), .v false (.int .i64 (bif (↑(List.length V) : Int) == (0 : Int) then (0 : Int) else Prod.fst (Prod.snd (Prod.snd (bx2_g ((0 : Int), (0 : Int), V, (↑(List.length V) : Int), Prod.fst (Prod.snd (Prod.snd (bx0_g ((0 : Int), (0 : Int), V, (↑(List.length V) : Int), (0 : Int), (0 : Int), (0 : Int), (0 : Int), (0 : Int), (0 : Int), (0 : Int), (0 : Int), (0 : Int), (0 : Int), (0 : Int), (0 : Int), V) (Prod.fst (el_iii V (0 : Int)), Prod.fst (el_iii V (0 : Int)), (0 : Int))))), Prod.fst (Prod.snd (Prod.snd (bx1_g ((0 : Int), (0 : Int), V, (↑(List.length V) : Int), Prod.fst (Prod.snd (Prod.snd (bx0_g ((0 : Int), (0 : Int), V, (↑(List.length V) : Int), (0 : Int), (0 : Int), (0 : Int), (0 : Int), (0 : Int), (0 : Int), (0 : Int), (0 : Int), (0 : Int), (0 : Int), (0 : Int), (0 : Int), V) (Prod.fst (el_iii V (0 : Int)), Prod.fst (el_iii V (0 : Int)), (0 : Int))))), (0 : Int), (0 : Int), Prod.fst (Prod.snd (bx0_g ((0 : Int), (0 : Int), V, (↑(List.length V) : Int), (0 : Int), (0 : Int), (0 : Int), (0 : Int), (0 : Int), (0 : Int), (0 : Int), (0 : Int), (0 : Int), (0 : Int), (0 : Int), (0 : Int), V) (Prod.fst (el_iii V (0 : Int)), Prod.fst (el_iii V (0 : Int)), (0 : Int)))), (0 : Int), (0 : Int), (0 : Int), (0 : Int), (0 : Int), (0 : Int), (0 : Int), (0 : Int), V) (Prod.fst (Prod.snd (el_iii V (0 : Int))), Prod.fst (Prod.snd (el_iii V (0 : Int))), (0 : Int))))), (0 : Int), Prod.fst (Prod.snd (bx0_g ((0 : Int), (0 : Int), V, (↑(List.length V) : Int), (0 : Int), (0 : Int), (0 : Int), (0 : Int), (0 : Int), (0 : Int), (0 : Int), (0 : Int), (0 : Int), (0 : Int), (0 : Int), (0 : Int), V) (Prod.fst (el_iii V (0 : Int)), Prod.fst (el_iii V (0 : Int)), (0 : Int)))), Prod.fst (Prod.snd (bx1_g ((0 : Int), (0 : Int), V, (↑(List.length V) : Int), Prod.fst (Prod.snd (Prod.snd (bx0_g ((0 : Int), (0 : Int), V, (↑(List.length V) : Int), (0 : Int), (0 : Int), (0 : Int), (0 : Int), (0 : Int), (0 : Int), (0 : Int), (0 : Int), (0 : Int), (0 : Int), (0 : Int), (0 : Int), V) (Prod.fst (el_iii V (0 : Int)), Prod.fst (el_iii V (0 : Int)), (0 : Int))))), (0 : Int), (0 : Int), Prod.fst (Prod.snd (bx0_g ((0 : Int), (0 : Int), V, (↑(List.length V) : Int), (0 : Int), (0 : Int), (0 : Int), (0 : Int), (0 : Int), (0 : Int), (0 : Int), (0 : Int), (0 : Int), (0 : Int), (0 : Int), (0 : Int), V) (Prod.fst (el_iii V (0 : Int)), Prod.fst (el_iii V (0 : Int)), (0 : Int)))), (0 : Int), (0 : Int), (0 : Int), (0 : Int), (0 : Int), (0 : Int), (0 : Int), (0 : Int), V) (Prod.fst (Prod.snd (el_iii V (0 : Int))), Prod.fst (Prod.snd (el_iii V (0 : Int))), (0 : Int)))), (0 : Int), (0 : Int), (0 : Int), (0 : Int), (0 : Int), (0 : Int), (0 : Int), V) (Prod.snd (Prod.snd (el_iii V (0 : Int))), Prod.snd (Prod.snd (el_iii V (0 : Int))), (0 : Int)))))))]), (false, [.v false (.bool (bif (↑(List.length V) : Int) == (0 : Int) then false else true))])])) (.bad 116) := by kernel_rfl
theorem vbc_val (V : (Ty.list (.prod (.int .i64) (.prod (.int .i64) (.int .i64)))).den) (hc : (decide (V.length ≤ 10000)) = true) : (.br ((bif (↑(List.length V) : Int) == (0 : Int) then true else ((decide ((0 : Int) ≤ (0 : Int)) && decide ((0 : Int) < (↑(List.length V) : Int))) && ((decide ((0 : Int) ≤ (0 : Int)) && decide ((0 : Int) < (↑(List.length V) : Int))) && ((bx0_cond ((0 : Int), (0 : Int), V, (↑(List.length V) : Int), (0 : Int), (0 : Int), (0 : Int), (0 : Int), (0 : Int), (0 : Int), (0 : Int), (0 : Int), (0 : Int), (0 : Int), (0 : Int), (0 : Int), V) (Prod.fst (el_iii V (0 : Int)), Prod.fst (el_iii V (0 : Int)), (0 : Int))) && ((Nat.beq (Prod.fst (bx0_g ((0 : Int), (0 : Int), V, (↑(List.length V) : Int), (0 : Int), (0 : Int), (0 : Int), (0 : Int), (0 : Int), (0 : Int), (0 : Int), (0 : Int), (0 : Int), (0 : Int), (0 : Int), (0 : Int), V) (Prod.fst (el_iii V (0 : Int)), Prod.fst (el_iii V (0 : Int)), (0 : Int)))) (0 : Nat)) && ((decide ((0 : Int) ≤ (0 : Int)) && decide ((0 : Int) < (↑(List.length V) : Int))) && ((decide ((0 : Int) ≤ (0 : Int)) && decide ((0 : Int) < (↑(List.length V) : Int))) && ((bx1_cond ((0 : Int), (0 : Int), V, (↑(List.length V) : Int), Prod.fst (Prod.snd (Prod.snd (bx0_g ((0 : Int), (0 : Int), V, (↑(List.length V) : Int), (0 : Int), (0 : Int), (0 : Int), (0 : Int), (0 : Int), (0 : Int), (0 : Int), (0 : Int), (0 : Int), (0 : Int), (0 : Int), (0 : Int), V) (Prod.fst (el_iii V (0 : Int)), Prod.fst (el_iii V (0 : Int)), (0 : Int))))), (0 : Int), (0 : Int), Prod.fst (Prod.snd (bx0_g ((0 : Int), (0 : Int), V, (↑(List.length V) : Int), (0 : Int), (0 : Int), (0 : Int), (0 : Int), (0 : Int), (0 : Int), (0 : Int), (0 : Int), (0 : Int), (0 : Int), (0 : Int), (0 : Int), V) (Prod.fst (el_iii V (0 : Int)), Prod.fst (el_iii V (0 : Int)), (0 : Int)))), (0 : Int), (0 : Int), (0 : Int), (0 : Int), (0 : Int), (0 : Int), (0 : Int), (0 : Int), V) (Prod.fst (Prod.snd (el_iii V (0 : Int))), Prod.fst (Prod.snd (el_iii V (0 : Int))), (0 : Int))) && ((Nat.beq (Prod.fst (bx1_g ((0 : Int), (0 : Int), V, (↑(List.length V) : Int), Prod.fst (Prod.snd (Prod.snd (bx0_g ((0 : Int), (0 : Int), V, (↑(List.length V) : Int), (0 : Int), (0 : Int), (0 : Int), (0 : Int), (0 : Int), (0 : Int), (0 : Int), (0 : Int), (0 : Int), (0 : Int), (0 : Int), (0 : Int), V) (Prod.fst (el_iii V (0 : Int)), Prod.fst (el_iii V (0 : Int)), (0 : Int))))), (0 : Int), (0 : Int), Prod.fst (Prod.snd (bx0_g ((0 : Int), (0 : Int), V, (↑(List.length V) : Int), (0 : Int), (0 : Int), (0 : Int), (0 : Int), (0 : Int), (0 : Int), (0 : Int), (0 : Int), (0 : Int), (0 : Int), (0 : Int), (0 : Int), V) (Prod.fst (el_iii V (0 : Int)), Prod.fst (el_iii V (0 : Int)), (0 : Int)))), (0 : Int), (0 : Int), (0 : Int), (0 : Int), (0 : Int), (0 : Int), (0 : Int), (0 : Int), V) (Prod.fst (Prod.snd (el_iii V (0 : Int))), Prod.fst (Prod.snd (el_iii V (0 : Int))), (0 : Int)))) (0 : Nat)) && ((decide ((0 : Int) ≤ (0 : Int)) && decide ((0 : Int) < (↑(List.length V) : Int))) && ((decide ((0 : Int) ≤ (0 : Int)) && decide ((0 : Int) < (↑(List.length V) : Int))) && ((bx2_cond ((0 : Int), (0 : Int), V, (↑(List.length V) : Int), Prod.fst (Prod.snd (Prod.snd (bx0_g ((0 : Int), (0 : Int), V, (↑(List.length V) : Int), (0 : Int), (0 : Int), (0 : Int), (0 : Int), (0 : Int), (0 : Int), (0 : Int), (0 : Int), (0 : Int), (0 : Int), (0 : Int), (0 : Int), V) (Prod.fst (el_iii V (0 : Int)), Prod.fst (el_iii V (0 : Int)), (0 : Int))))), Prod.fst (Prod.snd (Prod.snd (bx1_g ((0 : Int), (0 : Int), V, (↑(List.length V) : Int), Prod.fst (Prod.snd (Prod.snd (bx0_g ((0 : Int), (0 : Int), V, (↑(List.length V) : Int), (0 : Int), (0 : Int), (0 : Int), (0 : Int), (0 : Int), (0 : Int), (0 : Int), (0 : Int), (0 : Int), (0 : Int), (0 : Int), (0 : Int), V) (Prod.fst (el_iii V (0 : Int)), Prod.fst (el_iii V (0 : Int)), (0 : Int))))), (0 : Int), (0 : Int), Prod.fst (Prod.snd (bx0_g ((0 : Int), (0 : Int), V, (↑(List.length V) : Int), (0 : Int), (0 : Int), (0 : Int), (0 : Int), (0 : Int), (0 : Int), (0 : Int), (0 : Int), (0 : Int), (0 : Int), (0 : Int), (0 : Int), V) (Prod.fst (el_iii V (0 : Int)), Prod.fst (el_iii V (0 : Int)), (0 : Int)))), (0 : Int), (0 : Int), (0 : Int), (0 : Int), (0 : Int), (0 : Int), (0 : Int), (0 : Int), V) (Prod.fst (Prod.snd (el_iii V (0 : Int))), Prod.fst (Prod.snd (el_iii V (0 : Int))), (0 : Int))))), (0 : Int), Prod.fst (Prod.snd (bx0_g ((0 : Int), (0 : Int), V, (↑(List.length V) : Int), (0 : Int), (0 : Int), (0 : Int), (0 : Int), (0 : Int), (0 : Int), (0 : Int), (0 : Int), (0 : Int), (0 : Int), (0 : Int), (0 : Int), V) (Prod.fst (el_iii V (0 : Int)), Prod.fst (el_iii V (0 : Int)), (0 : Int)))), Prod.fst (Prod.snd (bx1_g ((0 : Int), (0 : Int), V, (↑(List.length V) : Int), Prod.fst (Prod.snd (Prod.snd (bx0_g ((0 : Int), (0 : Int), V, (↑(List.length V) : Int), (0 : Int), (0 : Int), (0 : Int), (0 : Int), (0 : Int), (0 : Int), (0 : Int), (0 : Int), (0 : Int), (0 : Int), (0 : Int), (0 : Int), V) (Prod.fst (el_iii V (0 : Int)), Prod.fst (el_iii V (0 : Int)), (0 : Int))))), (0 : Int), (0 : Int), Prod.fst (Prod.snd (bx0_g ((0 : Int), (0 : Int), V, (↑(List.length V) : Int), (0 : Int), (0 : Int), (0 : Int), (0 : Int), (0 : Int), (0 : Int), (0 : Int), (0 : Int), (0 : Int), (0 : Int), (0 : Int), (0 : Int), V) (Prod.fst (el_iii V (0 : Int)), Prod.fst (el_iii V (0 : Int)), (0 : Int)))), (0 : Int), (0 : Int), (0 : Int), (0 : Int), (0 : Int), (0 : Int), (0 : Int), (0 : Int), V) (Prod.fst (Prod.snd (el_iii V (0 : Int))), Prod.fst (Prod.snd (el_iii V (0 : Int))), (0 : Int)))), (0 : Int), (0 : Int), (0 : Int), (0 : Int), (0 : Int), (0 : Int), (0 : Int), V) (Prod.snd (Prod.snd (el_iii V (0 : Int))), Prod.snd (Prod.snd (el_iii V (0 : Int))), (0 : Int))) && (Nat.beq (Prod.fst (bx2_g ((0 : Int), (0 : Int), V, (↑(List.length V) : Int), Prod.fst (Prod.snd (Prod.snd (bx0_g ((0 : Int), (0 : Int), V, (↑(List.length V) : Int), (0 : Int), (0 : Int), (0 : Int), (0 : Int), (0 : Int), (0 : Int), (0 : Int), (0 : Int), (0 : Int), (0 : Int), (0 : Int), (0 : Int), V) (Prod.fst (el_iii V (0 : Int)), Prod.fst (el_iii V (0 : Int)), (0 : Int))))), Prod.fst (Prod.snd (Prod.snd (bx1_g ((0 : Int), (0 : Int), V, (↑(List.length V) : Int), Prod.fst (Prod.snd (Prod.snd (bx0_g ((0 : Int), (0 : Int), V, (↑(List.length V) : Int), (0 : Int), (0 : Int), (0 : Int), (0 : Int), (0 : Int), (0 : Int), (0 : Int), (0 : Int), (0 : Int), (0 : Int), (0 : Int), (0 : Int), V) (Prod.fst (el_iii V (0 : Int)), Prod.fst (el_iii V (0 : Int)), (0 : Int))))), (0 : Int), (0 : Int), Prod.fst (Prod.snd (bx0_g ((0 : Int), (0 : Int), V, (↑(List.length V) : Int), (0 : Int), (0 : Int), (0 : Int), (0 : Int), (0 : Int), (0 : Int), (0 : Int), (0 : Int), (0 : Int), (0 : Int), (0 : Int), (0 : Int), V) (Prod.fst (el_iii V (0 : Int)), Prod.fst (el_iii V (0 : Int)), (0 : Int)))), (0 : Int), (0 : Int), (0 : Int), (0 : Int), (0 : Int), (0 : Int), (0 : Int), (0 : Int), V) (Prod.fst (Prod.snd (el_iii V (0 : Int))), Prod.fst (Prod.snd (el_iii V (0 : Int))), (0 : Int))))), (0 : Int), Prod.fst (Prod.snd (bx0_g ((0 : Int), (0 : Int), V, (↑(List.length V) : Int), (0 : Int), (0 : Int), (0 : Int), (0 : Int), (0 : Int), (0 : Int), (0 : Int), (0 : Int), (0 : Int), (0 : Int), (0 : Int), (0 : Int), V) (Prod.fst (el_iii V (0 : Int)), Prod.fst (el_iii V (0 : Int)), (0 : Int)))), Prod.fst (Prod.snd (bx1_g ((0 : Int), (0 : Int), V, (↑(List.length V) : Int), Prod.fst (Prod.snd (Prod.snd (bx0_g ((0 : Int), (0 : Int), V, (↑(List.length V) : Int), (0 : Int), (0 : Int), (0 : Int), (0 : Int), (0 : Int), (0 : Int), (0 : Int), (0 : Int), (0 : Int), (0 : Int), (0 : Int), (0 : Int), V) (Prod.fst (el_iii V (0 : Int)), Prod.fst (el_iii V (0 : Int)), (0 : Int))))), (0 : Int), (0 : Int), Prod.fst (Prod.snd (bx0_g ((0 : Int), (0 : Int), V, (↑(List.length V) : Int), (0 : Int), (0 : Int), (0 : Int), (0 : Int), (0 : Int), (0 : Int), (0 : Int), (0 : Int), (0 : Int), (0 : Int), (0 : Int), (0 : Int), V) (Prod.fst (el_iii V (0 : Int)), Prod.fst (el_iii V (0 : Int)), (0 : Int)))), (0 : Int), (0 : Int), (0 : Int), (0 : Int), (0 : Int), (0 : Int), (0 : Int), (0 : Int), V) (Prod.fst (Prod.snd (el_iii V (0 : Int))), Prod.fst (Prod.snd (el_iii V (0 : Int))), (0 : Int)))), (0 : Int), (0 : Int), (0 : Int), (0 : Int), (0 : Int), (0 : Int), (0 : Int), V) (Prod.snd (Prod.snd (el_iii V (0 : Int))), Prod.snd (Prod.snd (el_iii V (0 : Int))), (0 : Int)))) (0 : Nat))))))))))))))) (.ret (.tup [(true, [.v false (.int .i64 (bif (↑(List.length V) : Int) == (0 : Int) then (0 : Int) else Prod.fst (Prod.snd (bx0_g ((0 : Int), (0 : Int), V, (↑(List.length V) : Int), (0 : Int), (0 : Int), (0 : Int), (0 : Int), (0 : Int), (0 : Int), (0 : Int), (0 : Int), (0 : Int), (0 : Int), (0 : Int), (0 : Int), V) (Prod.fst (el_iii V (0 : Int)), Prod.fst (el_iii V (0 : Int)), (0 : Int)))))), .v false (.int .i64 (bif (↑(List.length V) : Int) == (0 : Int) then (0 : Int) else Prod.fst (Prod.snd (bx1_g ((0 : Int), (0 : Int), V, (↑(List.length V) : Int), Prod.fst (Prod.snd (Prod.snd (bx0_g ((0 : Int), (0 : Int), V, (↑(List.length V) : Int), (0 : Int), (0 : Int), (0 : Int), (0 : Int), (0 : Int), (0 : Int), (0 : Int), (0 : Int), (0 : Int), (0 : Int), (0 : Int), (0 : Int), V) (Prod.fst (el_iii V (0 : Int)), Prod.fst (el_iii V (0 : Int)), (0 : Int))))), (0 : Int), (0 : Int), Prod.fst (Prod.snd (bx0_g ((0 : Int), (0 : Int), V, (↑(List.length V) : Int), (0 : Int), (0 : Int), (0 : Int), (0 : Int), (0 : Int), (0 : Int), (0 : Int), (0 : Int), (0 : Int), (0 : Int), (0 : Int), (0 : Int), V) (Prod.fst (el_iii V (0 : Int)), Prod.fst (el_iii V (0 : Int)), (0 : Int)))), (0 : Int), (0 : Int), (0 : Int), (0 : Int), (0 : Int), (0 : Int), (0 : Int), (0 : Int), V) (Prod.fst (Prod.snd (el_iii V (0 : Int))), Prod.fst (Prod.snd (el_iii V (0 : Int))), (0 : Int)))))), .v false (.int .i64 (bif (↑(List.length V) : Int) == (0 : Int) then (0 : Int) else Prod.fst (Prod.snd (bx2_g ((0 : Int), (0 : Int), V, (↑(List.length V) : Int), Prod.fst (Prod.snd (Prod.snd (bx0_g ((0 : Int), (0 : Int), V, (↑(List.length V) : Int), (0 : Int), (0 : Int), (0 : Int), (0 : Int), (0 : Int), (0 : Int), (0 : Int), (0 : Int), (0 : Int), (0 : Int), (0 : Int), (0 : Int), V) (Prod.fst (el_iii V (0 : Int)), Prod.fst (el_iii V (0 : Int)), (0 : Int))))), Prod.fst (Prod.snd (Prod.snd (bx1_g ((0 : Int), (0 : Int), V, (↑(List.length V) : Int), Prod.fst (Prod.snd (Prod.snd (bx0_g ((0 : Int), (0 : Int), V, (↑(List.length V) : Int), (0 : Int), (0 : Int), (0 : Int), (0 : Int), (0 : Int), (0 : Int), (0 : Int), (0 : Int), (0 : Int), (0 : Int), (0 : Int), (0 : Int), V) (Prod.fst (el_iii V (0 : Int)), Prod.fst (el_iii V (0 : Int)), (0 : Int))))), (0 : Int), (0 : Int), Prod.fst (Prod.snd (bx0_g ((0 : Int), (0 : Int), V, (↑(List.length V) : Int), (0 : Int), (0 : Int), (0 : Int), (0 : Int), (0 : Int), (0 : Int), (0 : Int), (0 : Int), (0 : Int), (0 : Int), (0 : Int), (0 : Int), V) (Prod.fst (el_iii V (0 : Int)), Prod.fst (el_iii V (0 : Int)), (0 : Int)))), (0 : Int), (0 : Int), (0 : Int), (0 : Int), (0 : Int), (0 : Int), (0 : Int), (0 : Int), V) (Prod.fst (Prod.snd (el_iii V (0 : Int))), Prod.fst (Prod.snd (el_iii V (0 : Int))), (0 : Int))))), (0 : Int), Prod.fst (Prod.snd (bx0_g ((0 : Int), (0 : Int), V, (↑(List.length V) : Int), (0 : Int), (0 : Int), (0 : Int), (0 : Int), (0 : Int), (0 : Int), (0 : Int), (0 : Int), (0 : Int), (0 : Int), (0 : Int), (0 : Int), V) (Prod.fst (el_iii V (0 : Int)), Prod.fst (el_iii V (0 : Int)), (0 : Int)))), Prod.fst (Prod.snd (bx1_g ((0 : Int), (0 : Int), V, (↑(List.length V) : Int), Prod.fst (Prod.snd (Prod.snd (bx0_g ((0 : Int), (0 : Int), V, (↑(List.length V) : Int), (0 : Int), (0 : Int), (0 : Int), (0 : Int), (0 : Int), (0 : Int), (0 : Int), (0 : Int), (0 : Int), (0 : Int), (0 : Int), (0 : Int), V) (Prod.fst (el_iii V (0 : Int)), Prod.fst (el_iii V (0 : Int)), (0 : Int))))), (0 : Int), (0 : Int), Prod.fst (Prod.snd (bx0_g ((0 : Int), (0 : Int), V, (↑(List.length V) : Int), (0 : Int), (0 : Int), (0 : Int), (0 : Int), (0 : Int), (0 : Int), (0 : Int), (0 : Int), (0 : Int), (0 : Int), (0 : Int), (0 : Int), V) (Prod.fst (el_iii V (0 : Int)), Prod.fst (el_iii V (0 : Int)), (0 : Int)))), (0 : Int), (0 : Int), (0 : Int), (0 : Int), (0 : Int), (0 : Int), (0 : Int), (0 : Int), V) (Prod.fst (Prod.snd (el_iii V (0 : Int))), Prod.fst (Prod.snd (el_iii V (0 : Int))), (0 : Int)))), (0 : Int), (0 : Int), (0 : Int), (0 : Int), (0 : Int), (0 : Int), (0 : Int), V) (Prod.snd (Prod.snd (el_iii V (0 : Int))), Prod.snd (Prod.snd (el_iii V (0 : Int))), (0 : Int))))))]), (true, [.v false (.int .i64 (bif (↑(List.length V) : Int) == (0 : Int) then (0 : Int) else Prod.fst (Prod.snd (Prod.snd (bx0_g ((0 : Int), (0 : Int), V, (↑(List.length V) : Int), (0 : Int), (0 : Int), (0 : Int), (0 : Int), (0 : Int), (0 : Int), (0 : Int), (0 : Int), (0 : Int), (0 : Int), (0 : Int), (0 : Int), V) (Prod.fst (el_iii V (0 : Int)), Prod.fst (el_iii V (0 : Int)), (0 : Int))))))), .v false (.int .i64 (bif (↑(List.length V) : Int) == (0 : Int) then (0 : Int) else Prod.fst (Prod.snd (Prod.snd (bx1_g ((0 : Int), (0 : Int), V, (↑(List.length V) : Int), Prod.fst (Prod.snd (Prod.snd (bx0_g ((0 : Int), (0 : Int), V, (↑(List.length V) : Int), (0 : Int), (0 : Int), (0 : Int), (0 : Int), (0 : Int), (0 : Int), (0 : Int), (0 : Int), (0 : Int), (0 : Int), (0 : Int), (0 : Int), V) (Prod.fst (el_iii V (0 : Int)), Prod.fst (el_iii V (0 : Int)), (0 : Int))))), (0 : Int), (0 : Int), Prod.fst (Prod.snd (bx0_g ((0 : Int), (0 : Int), V, (↑(List.length V) : Int), (0 : Int), (0 : Int), (0 : Int), (0 : Int), (0 : Int), (0 : Int), (0 : Int), (0 : Int), (0 : Int), (0 : Int), (0 : Int), (0 : Int), V) (Prod.fst (el_iii V (0 : Int)), Prod.fst (el_iii V (0 : Int)), (0 : Int)))), (0 : Int), (0 : Int), (0 : Int), (0 : Int), (0 : Int), (0 : Int), (0 : Int), (0 : Int), V) (Prod.fst (Prod.snd (el_iii V (0 : Int))), Prod.fst (Prod.snd (el_iii V (0 : Int))), (0 : Int))))))), .v false (.int .i64 (bif (↑(List.length V) : Int) == (0 : Int) then (0 : Int) else Prod.fst (Prod.snd (Prod.snd (bx2_g ((0 : Int), (0 : Int), V, (↑(List.length V) : Int), Prod.fst (Prod.snd (Prod.snd (bx0_g ((0 : Int), (0 : Int), V, (↑(List.length V) : Int), (0 : Int), (0 : Int), (0 : Int), (0 : Int), (0 : Int), (0 : Int), (0 : Int), (0 : Int), (0 : Int), (0 : Int), (0 : Int), (0 : Int), V) (Prod.fst (el_iii V (0 : Int)), Prod.fst (el_iii V (0 : Int)), (0 : Int))))), Prod.fst (Prod.snd (Prod.snd (bx1_g ((0 : Int), (0 : Int), V, (↑(List.length V) : Int), Prod.fst (Prod.snd (Prod.snd (bx0_g ((0 : Int), (0 : Int), V, (↑(List.length V) : Int), (0 : Int), (0 : Int), (0 : Int), (0 : Int), (0 : Int), (0 : Int), (0 : Int), (0 : Int), (0 : Int), (0 : Int), (0 : Int), (0 : Int), V) (Prod.fst (el_iii V (0 : Int)), Prod.fst (el_iii V (0 : Int)), (0 : Int))))), (0 : Int), (0 : Int), Prod.fst (Prod.snd (bx0_g ((0 : Int), (0 : Int), V, (↑(List.length V) : Int), (0 : Int), (0 : Int), (0 : Int), (0 : Int), (0 : Int), (0 : Int), (0 : Int), (0 : Int), (0 : Int), (0 : Int), (0 : Int), (0 : Int), V) (Prod.fst (el_iii V (0 : Int)), Prod.fst (el_iii V (0 : Int)), (0 : Int)))), (0 : Int), (0 : Int), (0 : Int), (0 : Int), (0 : Int), (0 : Int), (0 : Int), (0 : Int), V) (Prod.fst (Prod.snd (el_iii V (0 : Int))), Prod.fst (Prod.snd (el_iii V (0 : Int))), (0 : Int))))), (0 : Int), Prod.fst (Prod.snd (bx0_g ((0 : Int), (0 : Int), V, (↑(List.length V) : Int), (0 : Int), (0 : Int), (0 : Int), (0 : Int), (0 : Int), (0 : Int), (0 : Int), (0 : Int), (0 : Int), (0 : Int), (0 : Int), (0 : Int), V) (Prod.fst (el_iii V (0 : Int)), Prod.fst (el_iii V (0 : Int)), (0 : Int)))), Prod.fst (Prod.snd (bx1_g ((0 : Int), (0 : Int), V, (↑(List.length V) : Int), Prod.fst (Prod.snd (Prod.snd (bx0_g ((0 : Int), (0 : Int), V, (↑(List.length V) : Int), (0 : Int), (0 : Int), (0 : Int), (0 : Int), (0 : Int), (0 : Int), (0 : Int), (0 : Int), (0 : Int), (0 : Int), (0 : Int), (0 : Int), V) (Prod.fst (el_iii V (0 : Int)), Prod.fst (el_iii V (0 : Int)), (0 : Int))))), (0 : Int), (0 : Int), Prod.fst (Prod.snd (bx0_g ((0 : Int), (0 : Int), V, (↑(List.length V) : Int), (0 : Int), (0 : Int), (0 : Int), (0 : Int), (0 : Int), (0 : Int), (0 : Int), (0 : Int), (0 : Int), (0 : Int), (0 : Int), (0 : Int), V) (Prod.fst (el_iii V (0 : Int)), Prod.fst (el_iii V (0 : Int)), (0 : Int)))), (0 : Int), (0 : Int), (0 : Int), (0 : Int), (0 : Int), (0 : Int), (0 : Int), (0 : Int), V) (Prod.fst (Prod.snd (el_iii V (0 : Int))), Prod.fst (Prod.snd (el_iii V (0 : Int))), (0 : Int)))), (0 : Int), (0 : Int), (0 : Int), (0 : Int), (0 : Int), (0 : Int), (0 : Int), V) (Prod.snd (Prod.snd (el_iii V (0 : Int))), Prod.snd (Prod.snd (el_iii V (0 : Int))), (0 : Int)))))))]), (false, [.v false (.bool (bif (↑(List.length V) : Int) == (0 : Int) then false else true))])])) (.bad 116) : Tr AV).val = some (.tup [(true, [.v false (.int .i64 (bl f0 V)), .v false (.int .i64 (bl f1 V)), .v false (.int .i64 (bl f2 V))]), (true, [.v false (.int .i64 (bh f0 V)), .v false (.int .i64 (bh f1 V)), .v false (.int .i64 (bh f2 V))]), (false, [.v false (.bool (!((V.length : Int) == 0)))])]) := by
  have h := of_decide_eq_true hc
  show cond _ _ _ = _
  unfold bl bh
  have z0 : Nat.beq 0 0 = true := rfl
  by_cases h0 : (V.length : Int) = 0
  · have e : ((V.length : Int) == 0) = true := by rw [h0]; rfl
    simp only [e, cond_true, Bool.not_true, Tr.val]
  · have e : ((V.length : Int) == 0) = false := by simpa using h0
    have d1 : decide ((0 : Int) ≤ 0) = true := rfl
    have d2 : decide ((0 : Int) < (V.length : Int)) = true := decide_eq_true (by omega)
    have R0 := fun V' c0 c1 c2 c3 c4 c5 c6 c7 c8 c9 c10 c11 c12 c13 => bx0_run (V := V) (V' := V') c0 c1 c2 c3 c4 c5 c6 c7 c8 c9 c10 c11 c12 c13 h
    have R1 := fun V' c0 c1 c2 c3 c4 c5 c6 c7 c8 c9 c10 c11 c12 c13 => bx1_run (V := V) (V' := V') c0 c1 c2 c3 c4 c5 c6 c7 c8 c9 c10 c11 c12 c13 h
    have R2 := fun V' c0 c1 c2 c3 c4 c5 c6 c7 c8 c9 c10 c11 c12 c13 => bx2_run (V := V) (V' := V') c0 c1 c2 c3 c4 c5 c6 c7 c8 c9 c10 c11 c12 c13 h
    simp only [e, d1, d2, (R0 _ _ _ _ _ _ _ _ _ _ _ _ _ _ _).1, (R0 _ _ _ _ _ _ _ _ _ _ _ _ _ _ _).2, (R1 _ _ _ _ _ _ _ _ _ _ _ _ _ _ _).1, (R1 _ _ _ _ _ _ _ _ _ _ _ _ _ _ _).2, (R2 _ _ _ _ _ _ _ _ _ _ _ _ _ _ _).1, (R2 _ _ _ _ _ _ _ _ _ _ _ _ _ _ _).2, z0, cond_true, cond_false, Bool.and_self, Bool.not_false, Tr.val]
noncomputable def vbc_g : List AV → Option (Tr AV)
  | [.one (.d _ _ (.prod (.int .i64) (.prod (.int .i64) (.int .i64))) V)] => some (.br (decide (V.length ≤ 10000)) (.ret (.tup [(true, [.v false (.int .i64 (bl f0 V)), .v false (.int .i64 (bl f1 V)), .v false (.int .i64 (bl f2 V))]), (true, [.v false (.int .i64 (bh f0 V)), .v false (.int .i64 (bh f1 V)), .v false (.int .i64 (bh f2 V))]), (false, [.v false (.bool (!((V.length : Int) == 0)))])])) (.bad 900))
  | _ => none
set_option maxHeartbeats 4000000 in
theorem vbc_ok : FunOK Try.prog 27 vbc_g := by
  refine fun_ok (by kernel_rfl) (mbB_S51_ok) (mbB_L55_ok) 9 (On := (opens [])) (fun args t h => ?_)
  unfold vbc_g at h
  split at h
  · rename_i _ _ V
    simp only [Option.some.injEq] at h
    subst h
    refine ⟨[.one (.d false false (.prod (.int .i64) (.prod (.int .i64) (.int .i64))) V)], rfl, fun fr w us h => h, fun r hr => ?_⟩
    obtain ⟨hc, hr⟩ := br_bad hr
    simp only [Tr.val, Option.some.injEq] at hr
    subst hr
    rw [vbc_tree]
    exact vbc_val V hc
  · cases h
noncomputable def mbB_S56 : Sums := addS 27 vbc_g mbB_S51
theorem mbB_S56_ok : SumOK Try.prog mbB_S56 := addS_ok (vbc_ok) (mbB_S51_ok)
set_option maxRecDepth 100000 in
theorem rbc_tree (V : (Ty.list (.prod (.int .i64) (.prod (.int .i64) (.int .i64)))).den) : evalF Try.prog mbB_S56 (opens []) mbB_L55 9 29 [.one (.d false false (.prod (.int .i64) (.prod (.int .i64) (.int .i64))) V)] = .br ((bif (↑(List.length V) : Int) == (0 : Int) then true else ((decide ((0 : Int) ≤ (0 : Int)) && decide ((0 : Int) < (↑(List.length V) : Int))) && ((decide ((0 : Int) ≤ (0 : Int)) && decide ((0 : Int) < (↑(List.length V) : Int))) && ((rbo_cond (false, V, (↑(List.length V) : Int), (0 : Int), (0 : Int), (0 : Int), (0 : Int), (0 : Int), (0 : Int)) ((0 : Int), Prod.fst (el_iii V (0 : Int)), Prod.fst (Prod.snd (el_iii V (0 : Int))), Prod.snd (Prod.snd (el_iii V (0 : Int))), Prod.fst (el_iii V (0 : Int)), Prod.fst (Prod.snd (el_iii V (0 : Int))), Prod.snd (Prod.snd (el_iii V (0 : Int))))) && (Nat.beq (Prod.fst (rbo_g (false, V, (↑(List.length V) : Int), (0 : Int), (0 : Int), (0 : Int), (0 : Int), (0 : Int), (0 : Int)) ((0 : Int), Prod.fst (el_iii V (0 : Int)), Prod.fst (Prod.snd (el_iii V (0 : Int))), Prod.snd (Prod.snd (el_iii V (0 : Int))), Prod.fst (el_iii V (0 : Int)), Prod.fst (Prod.snd (el_iii V (0 : Int))), Prod.snd (Prod.snd (el_iii V (0 : Int)))))) (0 : Nat))))))) (.ret (.tup [(true, [.v false (.int .i64 (bif (↑(List.length V) : Int) == (0 : Int) then (0 : Int) else Prod.fst (Prod.snd (Prod.snd (rbo_g (false, V, (↑(List.length V) : Int), (0 : Int), (0 : Int), (0 : Int), (0 : Int), (0 : Int), (0 : Int)) ((0 : Int), Prod.fst (el_iii V (0 : Int)), Prod.fst (Prod.snd (el_iii V (0 : Int))), Prod.snd (Prod.snd (el_iii V (0 : Int))), Prod.fst (el_iii V (0 : Int)), Prod.fst (Prod.snd (el_iii V (0 : Int))), Prod.snd (Prod.snd (el_iii V (0 : Int))))))))), .v false (.int .i64 (bif (↑(List.length V) : Int) == (0 : Int) then (0 : Int) else Prod.fst (Prod.snd (Prod.snd (Prod.snd (rbo_g (false, V, (↑(List.length V) : Int), (0 : Int), (0 : Int), (0 : Int), (0 : Int), (0 : Int), (0 : Int)) ((0 : Int), Prod.fst (el_iii V (0 : Int)), Prod.fst (Prod.snd (el_iii V (0 : Int))), Prod.snd (Prod.snd (el_iii V (0 : Int))), Prod.fst (el_iii V (0 : Int)), Prod.fst (Prod.snd (el_iii V (0 : Int))), Prod.snd (Prod.snd (el_iii V (0 : Int)))))))))), .v false (.int .i64 (bif (↑(List.length V) : Int) == (0 : Int) then (0 : Int) else Prod.fst (Prod.snd (Prod.snd (Prod.snd (Prod.snd (rbo_g (false, V, (↑(List.length V) : Int), (0 : Int), (0 : Int), (0 : Int), (0 : Int), (0 : Int), (0 : Int)) ((0 : Int), Prod.fst (el_iii V (0 : Int)), Prod.fst (Prod.snd (el_iii V (0 : Int))), Prod.snd (Prod.snd (el_iii V (0 : Int))), Prod.fst (el_iii V (0 : Int)), Prod.fst (Prod.snd (el_iii V (0 : Int))), Prod.snd (Prod.snd (el_iii V (0 : Int)))))))))))]), (true, [.v false (.int .i64 (bif (↑(List.length V) : Int) == (0 : Int) then (0 : Int) else Prod.fst (Prod.snd (Prod.snd (Prod.snd (Prod.snd (Prod.snd (rbo_g (false, V, (↑(List.length V) : Int), (0 : Int), (0 : Int), (0 : Int), (0 : Int), (0 : Int), (0 : Int)) ((0 : Int), Prod.fst (el_iii V (0 : Int)), Prod.fst (Prod.snd (el_iii V (0 : Int))), Prod.snd (Prod.snd (el_iii V (0 : Int))), Prod.fst (el_iii V (0 : Int)), Prod.fst (Prod.snd (el_iii V (0 : Int))), Prod.snd (Prod.snd (el_iii V (0 : Int)))))))))))), .v false (.int .i64 (bif (↑(List.length V) : Int) == (0 : Int) then (0 : Int) else Prod.fst (Prod.snd (Prod.snd (Prod.snd (Prod.snd (Prod.snd (Prod.snd (rbo_g (false, V, (↑(List.length V) : Int), (0 : Int), (0 : Int), (0 : Int), (0 : Int), (0 : Int), (0 : Int)) ((0 : Int), Prod.fst (el_iii V (0 : Int)), Prod.fst (Prod.snd (el_iii V (0 : Int))), Prod.snd (Prod.snd (el_iii V (0 : Int))), Prod.fst (el_iii V (0 : Int)), Prod.fst (Prod.snd (el_iii V (0 : Int))), Prod.snd (Prod.snd (el_iii V (0 : Int))))))))))))), .v false (.int .i64 (bif (↑(List.length V) : Int) == (0 : Int) then (0 : Int) else Prod.snd (Prod.snd (Prod.snd (Prod.snd (Prod.snd (Prod.snd (Prod.snd (rbo_g (false, V, (↑(List.length V) : Int), (0 : Int), (0 : Int), (0 : Int), (0 : Int), (0 : Int), (0 : Int)) ((0 : Int), Prod.fst (el_iii V (0 : Int)), Prod.fst (Prod.snd (el_iii V (0 : Int))), Prod.snd (Prod.snd (el_iii V (0 : Int))), Prod.fst (el_iii V (0 : Int)), Prod.fst (Prod.snd (el_iii V (0 : Int))), Prod.snd (Prod.snd (el_iii V (0 : Int)))))))))))))]), (false, [.v false (.bool (bif (↑(List.length V) : Int) == (0 : Int) then false else true))])])) (.bad 116) := by kernel_rfl
theorem rbc_val (V : (Ty.list (.prod (.int .i64) (.prod (.int .i64) (.int .i64)))).den) (hc : (decide (V.length ≤ 10000)) = true) : (.br ((bif (↑(List.length V) : Int) == (0 : Int) then true else ((decide ((0 : Int) ≤ (0 : Int)) && decide ((0 : Int) < (↑(List.length V) : Int))) && ((decide ((0 : Int) ≤ (0 : Int)) && decide ((0 : Int) < (↑(List.length V) : Int))) && ((rbo_cond (false, V, (↑(List.length V) : Int), (0 : Int), (0 : Int), (0 : Int), (0 : Int), (0 : Int), (0 : Int)) ((0 : Int), Prod.fst (el_iii V (0 : Int)), Prod.fst (Prod.snd (el_iii V (0 : Int))), Prod.snd (Prod.snd (el_iii V (0 : Int))), Prod.fst (el_iii V (0 : Int)), Prod.fst (Prod.snd (el_iii V (0 : Int))), Prod.snd (Prod.snd (el_iii V (0 : Int))))) && (Nat.beq (Prod.fst (rbo_g (false, V, (↑(List.length V) : Int), (0 : Int), (0 : Int), (0 : Int), (0 : Int), (0 : Int), (0 : Int)) ((0 : Int), Prod.fst (el_iii V (0 : Int)), Prod.fst (Prod.snd (el_iii V (0 : Int))), Prod.snd (Prod.snd (el_iii V (0 : Int))), Prod.fst (el_iii V (0 : Int)), Prod.fst (Prod.snd (el_iii V (0 : Int))), Prod.snd (Prod.snd (el_iii V (0 : Int)))))) (0 : Nat))))))) (.ret (.tup [(true, [.v false (.int .i64 (bif (↑(List.length V) : Int) == (0 : Int) then (0 : Int) else Prod.fst (Prod.snd (Prod.snd (rbo_g (false, V, (↑(List.length V) : Int), (0 : Int), (0 : Int), (0 : Int), (0 : Int), (0 : Int), (0 : Int)) ((0 : Int), Prod.fst (el_iii V (0 : Int)), Prod.fst (Prod.snd (el_iii V (0 : Int))), Prod.snd (Prod.snd (el_iii V (0 : Int))), Prod.fst (el_iii V (0 : Int)), Prod.fst (Prod.snd (el_iii V (0 : Int))), Prod.snd (Prod.snd (el_iii V (0 : Int))))))))), .v false (.int .i64 (bif (↑(List.length V) : Int) == (0 : Int) then (0 : Int) else Prod.fst (Prod.snd (Prod.snd (Prod.snd (rbo_g (false, V, (↑(List.length V) : Int), (0 : Int), (0 : Int), (0 : Int), (0 : Int), (0 : Int), (0 : Int)) ((0 : Int), Prod.fst (el_iii V (0 : Int)), Prod.fst (Prod.snd (el_iii V (0 : Int))), Prod.snd (Prod.snd (el_iii V (0 : Int))), Prod.fst (el_iii V (0 : Int)), Prod.fst (Prod.snd (el_iii V (0 : Int))), Prod.snd (Prod.snd (el_iii V (0 : Int)))))))))), .v false (.int .i64 (bif (↑(List.length V) : Int) == (0 : Int) then (0 : Int) else Prod.fst (Prod.snd (Prod.snd (Prod.snd (Prod.snd (rbo_g (false, V, (↑(List.length V) : Int), (0 : Int), (0 : Int), (0 : Int), (0 : Int), (0 : Int), (0 : Int)) ((0 : Int), Prod.fst (el_iii V (0 : Int)), Prod.fst (Prod.snd (el_iii V (0 : Int))), Prod.snd (Prod.snd (el_iii V (0 : Int))), Prod.fst (el_iii V (0 : Int)), Prod.fst (Prod.snd (el_iii V (0 : Int))), Prod.snd (Prod.snd (el_iii V (0 : Int)))))))))))]), (true, [.v false (.int .i64 (bif (↑(List.length V) : Int) == (0 : Int) then (0 : Int) else Prod.fst (Prod.snd (Prod.snd (Prod.snd (Prod.snd (Prod.snd (rbo_g (false, V, (↑(List.length V) : Int), (0 : Int), (0 : Int), (0 : Int), (0 : Int), (0 : Int), (0 : Int)) ((0 : Int), Prod.fst (el_iii V (0 : Int)), Prod.fst (Prod.snd (el_iii V (0 : Int))), Prod.snd (Prod.snd (el_iii V (0 : Int))), Prod.fst (el_iii V (0 : Int)), Prod.fst (Prod.snd (el_iii V (0 : Int))), Prod.snd (Prod.snd (el_iii V (0 : Int)))))))))))), .v false (.int .i64 (bif (↑(List.length V) : Int) == (0 : Int) then (0 : Int) else Prod.fst (Prod.snd (Prod.snd (Prod.snd (Prod.snd (Prod.snd (Prod.snd (rbo_g (false, V, (↑(List.length V) : Int), (0 : Int), (0 : Int), (0 : Int), (0 : Int), (0 : Int), (0 : Int)) ((0 : Int), Prod.fst (el_iii V (0 : Int)), Prod.fst (Prod.snd (el_iii V (0 : Int))), Prod.snd (Prod.snd (el_iii V (0 : Int))), Prod.fst (el_iii V (0 : Int)), Prod.fst (Prod.snd (el_iii V (0 : Int))), Prod.snd (Prod.snd (el_iii V (0 : Int))))))))))))), .v false (.int .i64 (bif (↑(List.length V) : Int) == (0 : Int) then (0 : Int) else Prod.snd (Prod.snd (Prod.snd (Prod.snd (Prod.snd (Prod.snd (Prod.snd (rbo_g (false, V, (↑(List.length V) : Int), (0 : Int), (0 : Int), (0 : Int), (0 : Int), (0 : Int), (0 : Int)) ((0 : Int), Prod.fst (el_iii V (0 : Int)), Prod.fst (Prod.snd (el_iii V (0 : Int))), Prod.snd (Prod.snd (el_iii V (0 : Int))), Prod.fst (el_iii V (0 : Int)), Prod.fst (Prod.snd (el_iii V (0 : Int))), Prod.snd (Prod.snd (el_iii V (0 : Int)))))))))))))]), (false, [.v false (.bool (bif (↑(List.length V) : Int) == (0 : Int) then false else true))])])) (.bad 116) : Tr AV).val = some (.tup [(true, [.v false (.int .i64 (bl f0 V)), .v false (.int .i64 (bl f1 V)), .v false (.int .i64 (bl f2 V))]), (true, [.v false (.int .i64 (bh f0 V)), .v false (.int .i64 (bh f1 V)), .v false (.int .i64 (bh f2 V))]), (false, [.v false (.bool (!((V.length : Int) == 0)))])]) := by
  have h := of_decide_eq_true hc
  show cond _ _ _ = _
  unfold bl bh
  have z0 : Nat.beq 0 0 = true := rfl
  by_cases h0 : (V.length : Int) = 0
  · have e : ((V.length : Int) == 0) = true := by rw [h0]; rfl
    simp only [e, cond_true, Bool.not_true, Tr.val]
  · have e : ((V.length : Int) == 0) = false := by simpa using h0
    have d1 : decide ((0 : Int) ≤ 0) = true := rfl
    have d2 : decide ((0 : Int) < (V.length : Int)) = true := decide_eq_true (by omega)
    obtain ⟨r1, r2⟩ := rbo_run (V := V) false 0 0 0 0 0 0 h
    simp only [e, d1, d2, r1, r2, z0, cond_true, cond_false, Bool.and_self, Bool.not_false, Tr.val]
noncomputable def rbc_g : List AV → Option (Tr AV)
  | [.one (.d _ _ (.prod (.int .i64) (.prod (.int .i64) (.int .i64))) V)] => some (.br (decide (V.length ≤ 10000)) (.ret (.tup [(true, [.v false (.int .i64 (bl f0 V)), .v false (.int .i64 (bl f1 V)), .v false (.int .i64 (bl f2 V))]), (true, [.v false (.int .i64 (bh f0 V)), .v false (.int .i64 (bh f1 V)), .v false (.int .i64 (bh f2 V))]), (false, [.v false (.bool (!((V.length : Int) == 0)))])])) (.bad 900))
  | _ => none
set_option maxHeartbeats 4000000 in
theorem rbc_ok : FunOK Try.prog 29 rbc_g := by
  refine fun_ok (by kernel_rfl) (mbB_S56_ok) (mbB_L55_ok) 9 (On := (opens [])) (fun args t h => ?_)
  unfold rbc_g at h
  split at h
  · rename_i _ _ V
    simp only [Option.some.injEq] at h
    subst h
    refine ⟨[.one (.d false false (.prod (.int .i64) (.prod (.int .i64) (.int .i64))) V)], rfl, fun fr w us h => h, fun r hr => ?_⟩
    obtain ⟨hc, hr⟩ := br_bad hr
    simp only [Tr.val, Option.some.injEq] at hr
    subst hr
    rw [rbc_tree]
    exact rbc_val V hc
  · cases h
noncomputable def mbB_S57 : Sums := addS 29 rbc_g mbB_S56
theorem mbB_S57_ok : SumOK Try.prog mbB_S57 := addS_ok (rbc_ok) (mbB_S56_ok)
def bxl (f : Int × (Int × Int) → Int) (V T : List (Int × (Int × Int))) : Int := bif chk V T != 0 then 0 else bl f V
def bxh (f : Int × (Int × Int) → Int) (V T : List (Int × (Int × Int))) : Int := bif chk V T != 0 then 0 else bh f V
def bxo (V T : List (Int × (Int × Int))) : Bool := bif chk V T != 0 then false else !((V.length : Int) == 0)
set_option maxRecDepth 100000 in
theorem bxa_tree (V : (Ty.list (.prod (.int .i64) (.prod (.int .i64) (.int .i64)))).den) (T : (Ty.list (.prod (.int .i64) (.prod (.int .i64) (.int .i64)))).den) : evalF Try.prog mbB_S57 (opens []) mbB_L55 9 9 [.ag [.d false false (.prod (.int .i64) (.prod (.int .i64) (.int .i64))) V, .d false false (.prod (.int .i64) (.prod (.int .i64) (.int .i64))) T]] = .br ((bif chk V T != (0 : Int) then true else (decide (List.length V ≤ (10000 : Nat))))) (.ret (.tup [(true, [.v false (.int .i64 (bif chk V T != (0 : Int) then (0 : Int) else bl f0 V)), .v false (.int .i64 (bif chk V T != (0 : Int) then (0 : Int) else bl f1 V)), .v false (.int .i64 (bif chk V T != (0 : Int) then (0 : Int) else bl f2 V))]), (true, [.v false (.int .i64 (bif chk V T != (0 : Int) then (0 : Int) else bh f0 V)), .v false (.int .i64 (bif chk V T != (0 : Int) then (0 : Int) else bh f1 V)), .v false (.int .i64 (bif chk V T != (0 : Int) then (0 : Int) else bh f2 V))]), (false, [.v false (.bool (bif chk V T != (0 : Int) then false else !(↑(List.length V) : Int) == (0 : Int)))])])) (.bad 116) := by kernel_rfl
set_option maxHeartbeats 4000000 in
theorem bxa_val (V : (Ty.list (.prod (.int .i64) (.prod (.int .i64) (.int .i64)))).den) (T : (Ty.list (.prod (.int .i64) (.prod (.int .i64) (.int .i64)))).den) : (.br ((bif chk V T != (0 : Int) then true else (decide (List.length V ≤ (10000 : Nat))))) (.ret (.tup [(true, [.v false (.int .i64 (bif chk V T != (0 : Int) then (0 : Int) else bl f0 V)), .v false (.int .i64 (bif chk V T != (0 : Int) then (0 : Int) else bl f1 V)), .v false (.int .i64 (bif chk V T != (0 : Int) then (0 : Int) else bl f2 V))]), (true, [.v false (.int .i64 (bif chk V T != (0 : Int) then (0 : Int) else bh f0 V)), .v false (.int .i64 (bif chk V T != (0 : Int) then (0 : Int) else bh f1 V)), .v false (.int .i64 (bif chk V T != (0 : Int) then (0 : Int) else bh f2 V))]), (false, [.v false (.bool (bif chk V T != (0 : Int) then false else !(↑(List.length V) : Int) == (0 : Int)))])])) (.bad 116) : Tr AV).val = some (.tup [(true, [.v false (.int .i64 (bxl f0 V T)), .v false (.int .i64 (bxl f1 V T)), .v false (.int .i64 (bxl f2 V T))]), (true, [.v false (.int .i64 (bxh f0 V T)), .v false (.int .i64 (bxh f1 V T)), .v false (.int .i64 (bxh f2 V T))]), (false, [.v false (.bool (bxo V T))])]) := by
  show cond _ _ _ = _
  unfold bxl bxh bxo
  by_cases h : chk V T = 0
  · have hl : decide (V.length ≤ 10000) = true := decide_eq_true (by have := (chk0 h).1; omega)
    simp only [h, hl, bne_self_eq_false, cond_false, cond_true, Bool.and_self, Tr.val]
  · simp only [bne0 h, cond_true, Tr.val]
noncomputable def bxa_g : List AV → Option (Tr AV)
  | [.ag [.d _ _ (.prod (.int .i64) (.prod (.int .i64) (.int .i64))) V, .d _ _ (.prod (.int .i64) (.prod (.int .i64) (.int .i64))) T]] => some (.ret (.tup [(true, [.v false (.int .i64 (bxl f0 V T)), .v false (.int .i64 (bxl f1 V T)), .v false (.int .i64 (bxl f2 V T))]), (true, [.v false (.int .i64 (bxh f0 V T)), .v false (.int .i64 (bxh f1 V T)), .v false (.int .i64 (bxh f2 V T))]), (false, [.v false (.bool (bxo V T))])]))
  | _ => none
set_option maxHeartbeats 4000000 in
theorem bxa_ok : FunOK Try.prog 9 bxa_g := by
  refine fun_ok (by kernel_rfl) (mbB_S57_ok) (mbB_L55_ok) 9 (On := (opens [])) (fun args t h => ?_)
  unfold bxa_g at h
  split at h
  · rename_i _ _ V _ _ T
    simp only [Option.some.injEq] at h
    subst h
    refine ⟨[.ag [.d false false (.prod (.int .i64) (.prod (.int .i64) (.int .i64))) V, .d false false (.prod (.int .i64) (.prod (.int .i64) (.int .i64))) T]], rfl, fun fr w us h => h, fun r hr => ?_⟩
    simp only [Tr.val, Option.some.injEq] at hr
    subst hr
    rw [bxa_tree]
    exact bxa_val V T
  · cases h
noncomputable def mbB_S58 : Sums := addS 9 bxa_g mbB_S57
theorem mbB_S58_ok : SumOK Try.prog mbB_S58 := addS_ok (bxa_ok) (mbB_S57_ok)
set_option maxRecDepth 100000 in
theorem bxb_tree (V : (Ty.list (.prod (.int .i64) (.prod (.int .i64) (.int .i64)))).den) (T : (Ty.list (.prod (.int .i64) (.prod (.int .i64) (.int .i64)))).den) : evalF Try.prog mbB_S58 (opens []) mbB_L55 9 10 [.ag [.d false false (.prod (.int .i64) (.prod (.int .i64) (.int .i64))) V, .d false false (.prod (.int .i64) (.prod (.int .i64) (.int .i64))) T]] = .br ((bif chk V T != (0 : Int) then true else (decide (List.length V ≤ (10000 : Nat))))) (.ret (.tup [(true, [.v false (.int .i64 (bif chk V T != (0 : Int) then (0 : Int) else bl f0 V)), .v false (.int .i64 (bif chk V T != (0 : Int) then (0 : Int) else bl f1 V)), .v false (.int .i64 (bif chk V T != (0 : Int) then (0 : Int) else bl f2 V))]), (true, [.v false (.int .i64 (bif chk V T != (0 : Int) then (0 : Int) else bh f0 V)), .v false (.int .i64 (bif chk V T != (0 : Int) then (0 : Int) else bh f1 V)), .v false (.int .i64 (bif chk V T != (0 : Int) then (0 : Int) else bh f2 V))]), (false, [.v false (.bool (bif chk V T != (0 : Int) then false else !(↑(List.length V) : Int) == (0 : Int)))])])) (.bad 116) := by kernel_rfl
set_option maxHeartbeats 4000000 in
theorem bxb_val (V : (Ty.list (.prod (.int .i64) (.prod (.int .i64) (.int .i64)))).den) (T : (Ty.list (.prod (.int .i64) (.prod (.int .i64) (.int .i64)))).den) : (.br ((bif chk V T != (0 : Int) then true else (decide (List.length V ≤ (10000 : Nat))))) (.ret (.tup [(true, [.v false (.int .i64 (bif chk V T != (0 : Int) then (0 : Int) else bl f0 V)), .v false (.int .i64 (bif chk V T != (0 : Int) then (0 : Int) else bl f1 V)), .v false (.int .i64 (bif chk V T != (0 : Int) then (0 : Int) else bl f2 V))]), (true, [.v false (.int .i64 (bif chk V T != (0 : Int) then (0 : Int) else bh f0 V)), .v false (.int .i64 (bif chk V T != (0 : Int) then (0 : Int) else bh f1 V)), .v false (.int .i64 (bif chk V T != (0 : Int) then (0 : Int) else bh f2 V))]), (false, [.v false (.bool (bif chk V T != (0 : Int) then false else !(↑(List.length V) : Int) == (0 : Int)))])])) (.bad 116) : Tr AV).val = some (.tup [(true, [.v false (.int .i64 (bxl f0 V T)), .v false (.int .i64 (bxl f1 V T)), .v false (.int .i64 (bxl f2 V T))]), (true, [.v false (.int .i64 (bxh f0 V T)), .v false (.int .i64 (bxh f1 V T)), .v false (.int .i64 (bxh f2 V T))]), (false, [.v false (.bool (bxo V T))])]) := by
  show cond _ _ _ = _
  unfold bxl bxh bxo
  by_cases h : chk V T = 0
  · have hl : decide (V.length ≤ 10000) = true := decide_eq_true (by have := (chk0 h).1; omega)
    simp only [h, hl, bne_self_eq_false, cond_false, cond_true, Bool.and_self, Tr.val]
  · simp only [bne0 h, cond_true, Tr.val]
noncomputable def bxb_g : List AV → Option (Tr AV)
  | [.ag [.d _ _ (.prod (.int .i64) (.prod (.int .i64) (.int .i64))) V, .d _ _ (.prod (.int .i64) (.prod (.int .i64) (.int .i64))) T]] => some (.ret (.tup [(true, [.v false (.int .i64 (bxl f0 V T)), .v false (.int .i64 (bxl f1 V T)), .v false (.int .i64 (bxl f2 V T))]), (true, [.v false (.int .i64 (bxh f0 V T)), .v false (.int .i64 (bxh f1 V T)), .v false (.int .i64 (bxh f2 V T))]), (false, [.v false (.bool (bxo V T))])]))
  | _ => none
set_option maxHeartbeats 4000000 in
theorem bxb_ok : FunOK Try.prog 10 bxb_g := by
  refine fun_ok (by kernel_rfl) (mbB_S58_ok) (mbB_L55_ok) 9 (On := (opens [])) (fun args t h => ?_)
  unfold bxb_g at h
  split at h
  · rename_i _ _ V _ _ T
    simp only [Option.some.injEq] at h
    subst h
    refine ⟨[.ag [.d false false (.prod (.int .i64) (.prod (.int .i64) (.int .i64))) V, .d false false (.prod (.int .i64) (.prod (.int .i64) (.int .i64))) T]], rfl, fun fr w us h => h, fun r hr => ?_⟩
    simp only [Tr.val, Option.some.injEq] at hr
    subst hr
    rw [bxb_tree]
    exact bxb_val V T
  · cases h
noncomputable def mbB_S59 : Sums := addS 10 bxb_g mbB_S58
theorem mbB_S59_ok : SumOK Try.prog mbB_S59 := addS_ok (bxb_ok) (mbB_S58_ok)
set_option maxRecDepth 100000 in
theorem law_MeshBoxes_tree (V : (Ty.list (.prod (.int .i64) (.prod (.int .i64) (.int .i64)))).den) (T : (Ty.list (.prod (.int .i64) (.prod (.int .i64) (.int .i64)))).den) : evalF Try.prog mbB_S59 (opens []) mbB_L55 9 3 [.ag [.d false false (.prod (.int .i64) (.prod (.int .i64) (.int .i64))) V, .d false false (.prod (.int .i64) (.prod (.int .i64) (.int .i64))) T]] = .ret (.one (.v false (.bool (bif bif decide ((↑(List.length V) : Int) > (200 : Int)) then true else decide ((↑(List.length T) : Int) > (200 : Int)) then true else bif bif bif bxl f0 V T == bxl f0 V T && (bxl f1 V T == bxl f1 V T && (bxl f2 V T == bxl f2 V T && true)) then bxh f0 V T == bxh f0 V T && (bxh f1 V T == bxh f1 V T && (bxh f2 V T == bxh f2 V T && true)) else false then bxo V T == bxo V T else false then bif vol V T == vol V T then true else false else false)))) := by kernel_rfl
set_option maxHeartbeats 4000000 in
theorem law_MeshBoxes_all (V : (Ty.list (.prod (.int .i64) (.prod (.int .i64) (.int .i64)))).den) (T : (Ty.list (.prod (.int .i64) (.prod (.int .i64) (.int .i64)))).den) (r0 : Ty.InR (.prod (.list (.prod (.int .i64) (.prod (.int .i64) (.int .i64)))) (.list (.prod (.int .i64) (.prod (.int .i64) (.int .i64))))) (V, T))  : Tr.all (fun r => ∃ kn, r = AV.one (.v kn (.bool true))) (.ret (.one (.v false (.bool (bif bif decide ((↑(List.length V) : Int) > (200 : Int)) then true else decide ((↑(List.length T) : Int) > (200 : Int)) then true else bif bif bif bxl f0 V T == bxl f0 V T && (bxl f1 V T == bxl f1 V T && (bxl f2 V T == bxl f2 V T && true)) then bxh f0 V T == bxh f0 V T && (bxh f1 V T == bxh f1 V T && (bxh f2 V T == bxh f2 V T && true)) else false then bxo V T == bxo V T else false then bif vol V T == vol V T then true else false else false))))) := by
  refine ⟨false, ?_⟩
  simp only [beq_self_eq_true, cond_true, Bool.and_self, Bool.cond_self]
set_option maxHeartbeats 4000000 in
theorem law_MeshBoxes (v0 : Value) (x0 : ((.prod (.list (.prod (.int .i64) (.prod (.int .i64) (.int .i64)))) (.list (.prod (.int .i64) (.prod (.int .i64) (.int .i64))))) : Ty).den) (r0 : Ty.InR (.prod (.list (.prod (.int .i64) (.prod (.int .i64) (.int .i64)))) (.list (.prod (.int .i64) (.prod (.int .i64) (.int .i64))))) x0) (z_w : World) (i0 : (AV.ag (Ty.cells false (.prod (.list (.prod (.int .i64) (.prod (.int .i64) (.int .i64)))) (.list (.prod (.int .i64) (.prod (.int .i64) (.int .i64))))) x0)).is [] (fun _ => none) (fun b => b < z_w.heap.size) z_w v0) : Calls Try.prog 3 #[v0] z_w fun e w' => e = .returned (.bool true) ∧ Ext z_w w' := by
  obtain ⟨V, T⟩ := x0
  refine law_of_tree (by kernel_rfl) (mbB_S59_ok) (mbB_L55_ok) (law_MeshBoxes_tree V T) (law_MeshBoxes_all V T r0 ) rfl z_w _ _ (fun _ h => h) ⟨_, _, rfl, i0, rfl⟩
end Go.Proofs.Ytbagcmeeiiohpaa
