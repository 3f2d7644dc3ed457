/-
  Layer 36: Slow.
-/
import Derived.Test.YtbmdbejoignenaaProg
import Derived.Test.YtbmdbejoignenaaFvX
import Derived.Test.YtbmdbejoignenaaFvZ
import Derived.Test.YtbmdbejoignenaaAut
import Derived.Test.YtbmdbejoignenaaRd
import Derived.Test.YtbmdbejoignenaaPl
import Derived.Test.YtbmdbejoignenaaScn
import Derived.Test.YtbmdbejoignenaaCoA
import Derived.Test.YtbmdbejoignenaaCoB
import Derived.Test.YtbmdbejoignenaaCoC
import Derived.Test.YtbmdbejoignenaaCoD
namespace Go.Proofs.Ytbmdbejoignenaa
open Go
abbrev lij_U : Type := Int × (Ty.list (.prod (.int .i64) (.prod (.int .i64) (.prod (.int .i64) (.prod (.int .i64) (.prod (.int .i64) (.list (.prod (.int .i64) (.int .i64))))))))).den × Int
abbrev lij_V : Type := Int × (Ty.list (.prod (.int .i64) (.prod (.int .i64) (.prod (.int .i64) (.prod (.int .i64) (.prod (.int .i64) (.list (.prod (.int .i64) (.int .i64))))))))).den
noncomputable def lij_St (u : lij_U) (v : lij_V) : Stt := ⟨[.one .junk, .one (.v false (.int .i64 u.1)), .one .junk, .one .junk, .one (.v false (Value.slice none (0 : Nat) (0 : Nat))), .one (.s false 12002 0 (none)), .one .junk, .one .junk, .one .junk, .one .junk, .one (.d false false (.prod (.int .i64) (.prod (.int .i64) (.prod (.int .i64) (.prod (.int .i64) (.prod (.int .i64) (.list (.prod (.int .i64) (.int .i64)))))))) u.2.1), .one (.v false (.int .i64 u.2.2)), .one (.v false (.int .i64 v.1)), .one .junk, .one .junk, .one .junk, .one .junk, .one .junk, .one .junk, .one .junk, .one .junk, .one .junk, .one .junk, .one .junk, .one .junk, .one .junk, .one .junk, .one .junk, .one .junk, .one .junk], [(12002, .row true false false 29 (.prod (.int .i64) (.prod (.int .i64) (.prod (.int .i64) (.prod (.int .i64) (.prod (.int .i64) (.list (.prod (.int .i64) (.int .i64)))))))) v.2), (3, .dead), (0, .dead)], 13007⟩
noncomputable def lij_step (u : lij_U) (v : lij_V) : Tr (lij_V ⊕ (Nat × lij_V)) :=
  match u, v with
  | (q0, q1, q2), (q3, q4) => .br (decide (q3 < q2)) (.br (decide ((0 : Int) ≤ q3) && decide (q3 < (↑(List.length q1) : Int))) (.br (Prod.fst (el_iiiiilii q1 q3) == (3 : Int)) (.br (decide ((0 : Int) ≤ q3) && decide (q3 < (↑(List.length q4) : Int))) (.br (decide (Int.toNat q3 < List.length q4)) (.ret (.inl (IntKind.wrap IntKind.i64 (q3 + (1 : Int)), List.set q4 (Int.toNat q3) (Prod.fst (el_iiiiilii q4 q3), Prod.fst (Prod.snd (el_iiiiilii q4 q3)), Prod.fst (Prod.snd (Prod.snd (el_iiiiilii q4 q3))), Prod.fst (Prod.snd (Prod.snd (Prod.snd (el_iiiiilii q4 q3)))), if q0 < Prod.fst (Prod.snd (Prod.snd (Prod.snd (Prod.snd (el_iiiiilii q1 q3))))) then q0 else Prod.fst (Prod.snd (Prod.snd (Prod.snd (Prod.snd (el_iiiiilii q1 q3))))), Prod.snd (Prod.snd (Prod.snd (Prod.snd (Prod.snd (el_iiiiilii q4 q3))))))))) (.bad 19)) (.bad 31)) (.ret (.inl (IntKind.wrap IntKind.i64 (q3 + (1 : Int)), q4)))) (.bad 29)) (.ret (.inr (0, (q3, q4))))
set_option maxRecDepth 100000 in
set_option maxHeartbeats 4000000 in
theorem lij_step_eq : ∀ (u : lij_U) (v : lij_V), (evalC Try.prog (evalB Try.prog coD_S54 (opens [35]) coD_L53 7).1 (evalB Try.prog coD_S54 (opens [35]) coD_L53 7).2 (opens [35]) (coD_L53 35) 100000 (0 :: [0, 1, 0, 1, 1]) (loopOf (bodyOf Try.prog 35) [1, 1, 0, 1, 0]) (lij_St u v) []).bind (finF [0, 2, 3, 6, 7, 8, 9, 13, 14, 15, 16, 17, 18, 19, 20, 21, 22, 23, 24, 25, 26, 27, 28, 29] [] [12002, 3, 0] [3, 0] 13007) = (lij_step u v).bind (outA (lij_St u) [.exit 0]) := by
  rintro ⟨q0, q1, q2⟩ ⟨q3, q4⟩
  kernel_rfl
noncomputable def lij_rd (b : Bool) (o1 : Option AV) (o4 : Option AV) (o5 : Option AV) (o10 : Option AV) (o11 : Option AV) (o12 : Option AV) (own : Own) : Option (lij_U × lij_V) := zrT b <| zrO o1 fun za1 => zrA1 za1 fun zc2 => zrI .i64 zc2 fun q0 => zrO o4 fun za3 => zrA1 za3 fun zc4 => zrNil zc4 <| zrO o5 fun za5 => zrA1 za5 fun zc6 => zrSl 12002 0 (none) zc6 <| zrO o10 fun za7 => zrA1 za7 fun zc8 => zrD (.prod (.int .i64) (.prod (.int .i64) (.prod (.int .i64) (.prod (.int .i64) (.prod (.int .i64) (.list (.prod (.int .i64) (.int .i64)))))))) zc8 fun q1 => zrO o11 fun za9 => zrA1 za9 fun zc10 => zrI .i64 zc10 fun q2 => zrO o12 fun za11 => zrA1 za11 fun zc12 => zrI .i64 zc12 fun q3 => zrL own fun zq13 zw14 => zrKey 12002 zq13 fun zk15 => zrR true 29 (.prod (.int .i64) (.prod (.int .i64) (.prod (.int .i64) (.prod (.int .i64) (.prod (.int .i64) (.list (.prod (.int .i64) (.int .i64)))))))) zk15 fun q4 => zrL zw14 fun zq16 zw17 => zrKey 3 zq16 fun zk18 => zrX zk18 <| zrL zw17 fun zq19 zw20 => zrKey 0 zq19 fun zk21 => zrX zk21 <| zrN zw20 <| some ((q0, q1, q2), (q3, q4))
noncomputable def lij_can (st : Stt) : Stt := canA [0, 2, 3, 6, 7, 8, 9, 13, 14, 15, 16, 17, 18, 19, 20, 21, 22, 23, 24, 25, 26, 27, 28, 29] [] [12002, 3, 0] [3, 0] 13007 st
noncomputable def lij_cok (st : Stt) : Bool := canAok [0, 2, 3, 6, 7, 8, 9, 13, 14, 15, 16, 17, 18, 19, 20, 21, 22, 23, 24, 25, 26, 27, 28, 29] [] [12002, 3, 0] [3, 0] 13007 st
noncomputable def lij_read (st : Stt) : Option (lij_U × lij_V) := lij_rd (lij_cok st && (staysA [] [12002, 3, 0] st.own && juAll [0, 2, 3, 6, 7, 8, 9, 13, 14, 15, 16, 17, 18, 19, 20, 21, 22, 23, 24, 25, 26, 27, 28, 29] (lij_can st).tm 30)) (lij_can st).tm[1]? (lij_can st).tm[4]? (lij_can st).tm[5]? (lij_can st).tm[10]? (lij_can st).tm[11]? (lij_can st).tm[12]? (lij_can st).own
set_option maxRecDepth 100000 in
set_option maxHeartbeats 4000000 in
theorem lij_rd_ok {b : Bool} {tm : List AV} {own : Own} {u : lij_U} {v : lij_V} (hj : b = true → juAll [0, 2, 3, 6, 7, 8, 9, 13, 14, 15, 16, 17, 18, 19, 20, 21, 22, 23, 24, 25, 26, 27, 28, 29] tm 30 = true) (h : lij_rd b tm[1]? tm[4]? tm[5]? tm[10]? tm[11]? tm[12]? own = some (u, v)) : b = true ∧ tm = (lij_St u v).tm ∧ own = (lij_St u v).own := by
  unfold lij_rd at h
  obtain ⟨rfl, h0⟩ := zrT_some h
  obtain ⟨za1, e1, h1⟩ := zrO_some h0
  obtain ⟨zc2, rfl, h2⟩ := zrA1_some h1
  obtain ⟨q0, rfl, h3⟩ := zrI_some h2
  obtain ⟨za3, e4, h4⟩ := zrO_some h3
  obtain ⟨zc4, rfl, h5⟩ := zrA1_some h4
  obtain ⟨rfl, h6⟩ := zrNil_some h5
  obtain ⟨za5, e5, h7⟩ := zrO_some h6
  obtain ⟨zc6, rfl, h8⟩ := zrA1_some h7
  obtain ⟨rfl, h9⟩ := zrSl_some h8
  obtain ⟨za7, e10, h10⟩ := zrO_some h9
  obtain ⟨zc8, rfl, h11⟩ := zrA1_some h10
  obtain ⟨q1, rfl, h12⟩ := zrD_some h11
  obtain ⟨za9, e11, h13⟩ := zrO_some h12
  obtain ⟨zc10, rfl, h14⟩ := zrA1_some h13
  obtain ⟨q2, rfl, h15⟩ := zrI_some h14
  obtain ⟨za11, e12, h16⟩ := zrO_some h15
  obtain ⟨zc12, rfl, h17⟩ := zrA1_some h16
  obtain ⟨q3, rfl, h18⟩ := zrI_some h17
  obtain ⟨zq13, zw14, rfl, h19⟩ := zrL_some h18
  obtain ⟨zk15, rfl, h20⟩ := zrKey_some h19
  obtain ⟨q4, rfl, h21⟩ := zrR_some h20
  obtain ⟨zq16, zw17, rfl, h22⟩ := zrL_some h21
  obtain ⟨zk18, rfl, h23⟩ := zrKey_some h22
  obtain ⟨rfl, h24⟩ := zrX_some h23
  obtain ⟨zq19, zw20, rfl, h25⟩ := zrL_some h24
  obtain ⟨zk21, rfl, h26⟩ := zrKey_some h25
  obtain ⟨rfl, h27⟩ := zrX_some h26
  obtain ⟨rfl, h28⟩ := zrN_some h27
  have h := Option.some.inj h28
  have hu := congrArg Prod.fst h
  have hv := congrArg Prod.snd h
  dsimp only at hu hv
  subst hu
  subst hv
  exact ⟨rfl, (tm_fill (hj rfl) (Lv := [(1, .one (.v false (.int .i64 q0))), (4, .one (.v false (Value.slice none (0 : Nat) (0 : Nat)))), (5, .one (.s false 12002 0 (none))), (10, .one (.d false false (.prod (.int .i64) (.prod (.int .i64) (.prod (.int .i64) (.prod (.int .i64) (.prod (.int .i64) (.list (.prod (.int .i64) (.int .i64)))))))) q1)), (11, .one (.v false (.int .i64 q2))), (12, .one (.v false (.int .i64 q3)))]) (by kernel_rfl) ⟨e1, e4, e5, e10, e11, e12, trivial⟩).trans (by kernel_rfl), rfl⟩
theorem lij_read_ok (st : Stt) (u : lij_U) (v : lij_V) (h : lij_read st = some (u, v)) : lij_cok st = true ∧ staysA [] [12002, 3, 0] st.own = true ∧ lij_can st = lij_St u v := by
  obtain ⟨h1, h2, h3⟩ := lij_rd_ok (fun hb => by rw [Bool.and_eq_true, Bool.and_eq_true] at hb; exact hb.2.2) h
  rw [Bool.and_eq_true, Bool.and_eq_true] at h1
  refine ⟨h1.1, h1.2.1, ?_⟩
  have e : lij_can st = ⟨(lij_can st).tm, (lij_can st).own, 13007⟩ := by kernel_rfl
  rw [e, h2, h3]
  rfl
noncomputable def lij_cond (u : lij_U) (v : lij_V) : Bool := runC (lij_step u) v
noncomputable def lij_g (u : lij_U) (v : lij_V) : Nat × lij_V := runG (lij_step u) v
theorem lij_hg : ∀ (u : lij_U) (v : lij_V), lij_cond u v = true → loopN (lij_step u) ((fun u v => runF (lij_step u) v) u v) v = some (lij_g u v) := by
  exact fun u v h => run_hg h
noncomputable def lij_m (st : Stt) : Option (Tr (Ex × Stt)) := sumM lij_read lij_cond lij_St lij_g [(0, .exit 0)] st
noncomputable def coE_L51 : FuncId → Loops := addL 35 [0, 1, 0, 1, 1] lij_m coD_L53
set_option maxRecDepth 100000 in
set_option maxHeartbeats 4000000 in
theorem coE_L51_ok : LoopsOK Try.prog coE_L51 :=
  loop_sumF (body := (bodyOf Try.prog 35)) (c := (loopOf (bodyOf Try.prog 35) [1, 1, 0, 1, 0])) (kinds := [.exit 0]) (allow := [(0, .exit 0)]) (St := lij_St) (step := lij_step) (W := [0, 2, 3, 6, 7, 8, 9, 13, 14, 15, 16, 17, 18, 19, 20, 21, 22, 23, 24, 25, 26, 27, 28, 29]) (As := []) (ks := [12002, 3, 0]) (dd := [3, 0]) (nx := 13007) (n := 100000) (g := lij_g) (cond := lij_cond) (fuel := (fun u v => runF (lij_step u) v)) (read := lij_read) (by kernel_rfl) (coD_S54_ok) (coD_L53_ok) 7 ⟨Try.f35, by kernel_rfl, by kernel_rfl⟩ (by kernel_rfl) (by kernel_rfl) (by kernel_rfl) lij_step_eq lij_hg lij_read_ok
abbrev slo_U : Type := Int
abbrev slo_V : Type := Int × (Ty.list (.prod (.int .i64) (.prod (.int .i64) (.prod (.int .i64) (.prod (.int .i64) (.prod (.int .i64) (.list (.prod (.int .i64) (.int .i64))))))))).den
noncomputable def slo_St (u : slo_U) (v : slo_V) : Stt := ⟨[.one .junk, .one .junk, .one .junk, .one .junk, .one (.v false (Value.slice none (0 : Nat) (0 : Nat))), .one (.s false 12002 0 (none)), .one .junk, .one .junk, .one .junk, .one .junk, .one .junk, .one .junk, .one .junk, .one .junk, .one .junk, .one .junk, .one .junk, .one (.v false (.int .i64 u)), .one (.v false (.int .i64 v.1)), .one .junk, .one .junk, .one .junk, .one .junk, .one .junk, .one .junk, .one .junk, .one .junk, .one .junk, .one .junk, .one .junk, .one .junk, .one .junk, .one .junk], [(12002, .row true false false 29 (.prod (.int .i64) (.prod (.int .i64) (.prod (.int .i64) (.prod (.int .i64) (.prod (.int .i64) (.list (.prod (.int .i64) (.int .i64)))))))) v.2), (3, .dead), (0, .dead)], 1016⟩
noncomputable def slo_step (u : slo_U) (v : slo_V) : Tr (slo_V ⊕ (Nat × slo_V)) :=
  match u, v with
  | q0, (q1, q2) => .br (decide (q1 < q0)) (.br (decide ((0 : Int) ≤ q1) && decide (q1 < (↑(List.length q2) : Int))) (.br (decide (Int.toNat q1 < List.length q2)) (.br (decide (List.length (Prod.snd (Prod.snd (Prod.snd (Prod.snd (Prod.snd (el_iiiiilii q2 q1)))))) * (16 : Nat) ≤ maxNew) && decide (List.length (Prod.snd (Prod.snd (Prod.snd (Prod.snd (Prod.snd (el_iiiiilii q2 q1)))))) ≤ maxLen)) (.br (decide ((0 : Int) ≤ q1) && decide (q1 < (↑(List.length q2) : Int))) (.br (decide (Int.toNat q1 < List.length q2)) (.ret (.inl (IntKind.wrap IntKind.i64 (q1 + (1 : Int)), List.set q2 (Int.toNat q1) (Prod.fst (el_iiiiilii q2 q1), Prod.fst (Prod.snd (el_iiiiilii q2 q1)), Prod.fst (Prod.snd (Prod.snd (el_iiiiilii q2 q1))), Prod.fst (Prod.snd (Prod.snd (Prod.snd (el_iiiiilii q2 q1)))), Prod.fst (Prod.snd (Prod.snd (Prod.snd (Prod.snd (el_iiiiilii q2 q1))))), Prod.snd (Prod.snd (Prod.snd (Prod.snd (Prod.snd (el_iiiiilii q2 q1))))))))) (.bad 19)) (.bad 31)) (.bad 74)) (.bad 12)) (.bad 31)) (.ret (.inr (0, (q1, q2))))
set_option maxRecDepth 100000 in
set_option maxHeartbeats 4000000 in
theorem slo_step_eq : ∀ (u : slo_U) (v : slo_V), (evalC Try.prog (evalB Try.prog coD_S54 (opens [35]) coE_L51 7).1 (evalB Try.prog coD_S54 (opens [35]) coE_L51 7).2 (opens [35]) (coE_L51 21) 100000 (0 :: [0, 1, 0, 1, 1, 1]) (loopOf (bodyOf Try.prog 21) [1, 1, 1, 0, 1, 0]) (slo_St u v) []).bind (finF [0, 1, 2, 3, 6, 7, 8, 9, 10, 11, 12, 13, 14, 15, 16, 19, 20, 21, 22, 23, 24, 25, 26, 27, 28, 29, 30, 31, 32] [] [12002, 3, 0] [3, 0] 1016) = (slo_step u v).bind (outA (slo_St u) [.exit 0]) := by
  rintro q0 ⟨q1, q2⟩
  kernel_rfl
noncomputable def slo_rd (b : Bool) (o4 : Option AV) (o5 : Option AV) (o17 : Option AV) (o18 : Option AV) (own : Own) : Option (slo_U × slo_V) := zrT b <| zrO o4 fun za1 => zrA1 za1 fun zc2 => zrNil zc2 <| zrO o5 fun za3 => zrA1 za3 fun zc4 => zrSl 12002 0 (none) zc4 <| zrO o17 fun za5 => zrA1 za5 fun zc6 => zrI .i64 zc6 fun q0 => zrO o18 fun za7 => zrA1 za7 fun zc8 => zrI .i64 zc8 fun q1 => zrL own fun zq9 zw10 => zrKey 12002 zq9 fun zk11 => zrR true 29 (.prod (.int .i64) (.prod (.int .i64) (.prod (.int .i64) (.prod (.int .i64) (.prod (.int .i64) (.list (.prod (.int .i64) (.int .i64)))))))) zk11 fun q2 => zrL zw10 fun zq12 zw13 => zrKey 3 zq12 fun zk14 => zrX zk14 <| zrL zw13 fun zq15 zw16 => zrKey 0 zq15 fun zk17 => zrX zk17 <| zrN zw16 <| some (q0, (q1, q2))
noncomputable def slo_can (st : Stt) : Stt := canA [0, 1, 2, 3, 6, 7, 8, 9, 10, 11, 12, 13, 14, 15, 16, 19, 20, 21, 22, 23, 24, 25, 26, 27, 28, 29, 30, 31, 32] [] [12002, 3, 0] [3, 0] 1016 st
noncomputable def slo_cok (st : Stt) : Bool := canAok [0, 1, 2, 3, 6, 7, 8, 9, 10, 11, 12, 13, 14, 15, 16, 19, 20, 21, 22, 23, 24, 25, 26, 27, 28, 29, 30, 31, 32] [] [12002, 3, 0] [3, 0] 1016 st
noncomputable def slo_read (st : Stt) : Option (slo_U × slo_V) := slo_rd (slo_cok st && (staysA [] [12002, 3, 0] st.own && juAll [0, 1, 2, 3, 6, 7, 8, 9, 10, 11, 12, 13, 14, 15, 16, 19, 20, 21, 22, 23, 24, 25, 26, 27, 28, 29, 30, 31, 32] (slo_can st).tm 33)) (slo_can st).tm[4]? (slo_can st).tm[5]? (slo_can st).tm[17]? (slo_can st).tm[18]? (slo_can st).own
set_option maxRecDepth 100000 in
set_option maxHeartbeats 4000000 in
theorem slo_rd_ok {b : Bool} {tm : List AV} {own : Own} {u : slo_U} {v : slo_V} (hj : b = true → juAll [0, 1, 2, 3, 6, 7, 8, 9, 10, 11, 12, 13, 14, 15, 16, 19, 20, 21, 22, 23, 24, 25, 26, 27, 28, 29, 30, 31, 32] tm 33 = true) (h : slo_rd b tm[4]? tm[5]? tm[17]? tm[18]? own = some (u, v)) : b = true ∧ tm = (slo_St u v).tm ∧ own = (slo_St u v).own := by
  unfold slo_rd at h
  obtain ⟨rfl, h0⟩ := zrT_some h
  obtain ⟨za1, e4, h1⟩ := zrO_some h0
  obtain ⟨zc2, rfl, h2⟩ := zrA1_some h1
  obtain ⟨rfl, h3⟩ := zrNil_some h2
  obtain ⟨za3, e5, h4⟩ := zrO_some h3
  obtain ⟨zc4, rfl, h5⟩ := zrA1_some h4
  obtain ⟨rfl, h6⟩ := zrSl_some h5
  obtain ⟨za5, e17, h7⟩ := zrO_some h6
  obtain ⟨zc6, rfl, h8⟩ := zrA1_some h7
  obtain ⟨q0, rfl, h9⟩ := zrI_some h8
  obtain ⟨za7, e18, h10⟩ := zrO_some h9
  obtain ⟨zc8, rfl, h11⟩ := zrA1_some h10
  obtain ⟨q1, rfl, h12⟩ := zrI_some h11
  obtain ⟨zq9, zw10, rfl, h13⟩ := zrL_some h12
  obtain ⟨zk11, rfl, h14⟩ := zrKey_some h13
  obtain ⟨q2, rfl, h15⟩ := zrR_some h14
  obtain ⟨zq12, zw13, rfl, h16⟩ := zrL_some h15
  obtain ⟨zk14, rfl, h17⟩ := zrKey_some h16
  obtain ⟨rfl, h18⟩ := zrX_some h17
  obtain ⟨zq15, zw16, rfl, h19⟩ := zrL_some h18
  obtain ⟨zk17, rfl, h20⟩ := zrKey_some h19
  obtain ⟨rfl, h21⟩ := zrX_some h20
  obtain ⟨rfl, h22⟩ := zrN_some h21
  have h := Option.some.inj h22
  have hu := congrArg Prod.fst h
  have hv := congrArg Prod.snd h
  dsimp only at hu hv
  subst hu
  subst hv
  exact ⟨rfl, (tm_fill (hj rfl) (Lv := [(4, .one (.v false (Value.slice none (0 : Nat) (0 : Nat)))), (5, .one (.s false 12002 0 (none))), (17, .one (.v false (.int .i64 q0))), (18, .one (.v false (.int .i64 q1)))]) (by kernel_rfl) ⟨e4, e5, e17, e18, trivial⟩).trans (by kernel_rfl), rfl⟩
theorem slo_read_ok (st : Stt) (u : slo_U) (v : slo_V) (h : slo_read st = some (u, v)) : slo_cok st = true ∧ staysA [] [12002, 3, 0] st.own = true ∧ slo_can st = slo_St u v := by
  obtain ⟨h1, h2, h3⟩ := slo_rd_ok (fun hb => by rw [Bool.and_eq_true, Bool.and_eq_true] at hb; exact hb.2.2) h
  rw [Bool.and_eq_true, Bool.and_eq_true] at h1
  refine ⟨h1.1, h1.2.1, ?_⟩
  have e : slo_can st = ⟨(slo_can st).tm, (slo_can st).own, 1016⟩ := by kernel_rfl
  rw [e, h2, h3]
  rfl
noncomputable def slo_cond (u : slo_U) (v : slo_V) : Bool := runC (slo_step u) v
noncomputable def slo_g (u : slo_U) (v : slo_V) : Nat × slo_V := runG (slo_step u) v
theorem slo_hg : ∀ (u : slo_U) (v : slo_V), slo_cond u v = true → loopN (slo_step u) ((fun u v => runF (slo_step u) v) u v) v = some (slo_g u v) := by
  exact fun u v h => run_hg h
noncomputable def slo_m (st : Stt) : Option (Tr (Ex × Stt)) := sumM slo_read slo_cond slo_St slo_g [(0, .exit 0)] st
noncomputable def coE_L52 : FuncId → Loops := addL 21 [0, 1, 0, 1, 1, 1] slo_m coE_L51
set_option maxRecDepth 100000 in
set_option maxHeartbeats 4000000 in
theorem coE_L52_ok : LoopsOK Try.prog coE_L52 :=
  loop_sumF (body := (bodyOf Try.prog 21)) (c := (loopOf (bodyOf Try.prog 21) [1, 1, 1, 0, 1, 0])) (kinds := [.exit 0]) (allow := [(0, .exit 0)]) (St := slo_St) (step := slo_step) (W := [0, 1, 2, 3, 6, 7, 8, 9, 10, 11, 12, 13, 14, 15, 16, 19, 20, 21, 22, 23, 24, 25, 26, 27, 28, 29, 30, 31, 32]) (As := []) (ks := [12002, 3, 0]) (dd := [3, 0]) (nx := 1016) (n := 100000) (g := slo_g) (cond := slo_cond) (fuel := (fun u v => runF (slo_step u) v)) (read := slo_read) (by kernel_rfl) (coD_S54_ok) (coE_L51_ok) 7 ⟨Try.f21, by kernel_rfl, by kernel_rfl⟩ (by kernel_rfl) (by kernel_rfl) (by kernel_rfl) slo_step_eq slo_hg slo_read_ok
abbrev slp_U : Type := Int
abbrev slp_V : Type := Int × (Ty.list (.prod (.int .i64) (.prod (.int .i64) (.prod (.int .i64) (.prod (.int .i64) (.prod (.int .i64) (.list (.prod (.int .i64) (.int .i64))))))))).den
noncomputable def slp_St (u : slp_U) (v : slp_V) : Stt := ⟨[.one .junk, .one .junk, .one .junk, .one .junk, .one (.v false (Value.slice none (0 : Nat) (0 : Nat))), .one (.s false 3 0 (none)), .one .junk, .one .junk, .one .junk, .one .junk, .one .junk, .one .junk, .one .junk, .one .junk, .one .junk, .one .junk, .one .junk, .one (.v false (.int .i64 u)), .one (.v false (.int .i64 v.1)), .one .junk, .one .junk, .one .junk, .one .junk, .one .junk, .one .junk, .one .junk, .one .junk, .one .junk, .one .junk, .one .junk, .one .junk, .one .junk, .one .junk], [(3, .row true false false 29 (.prod (.int .i64) (.prod (.int .i64) (.prod (.int .i64) (.prod (.int .i64) (.prod (.int .i64) (.list (.prod (.int .i64) (.int .i64)))))))) v.2), (0, .dead)], 1010⟩
noncomputable def slp_step (u : slp_U) (v : slp_V) : Tr (slp_V ⊕ (Nat × slp_V)) :=
  match u, v with
  | q0, (q1, q2) => .br (decide (q1 < q0)) (.br (decide ((0 : Int) ≤ q1) && decide (q1 < (↑(List.length q2) : Int))) (.br (decide (Int.toNat q1 < List.length q2)) (.br (decide (List.length (Prod.snd (Prod.snd (Prod.snd (Prod.snd (Prod.snd (el_iiiiilii q2 q1)))))) * (16 : Nat) ≤ maxNew) && decide (List.length (Prod.snd (Prod.snd (Prod.snd (Prod.snd (Prod.snd (el_iiiiilii q2 q1)))))) ≤ maxLen)) (.br (decide ((0 : Int) ≤ q1) && decide (q1 < (↑(List.length q2) : Int))) (.br (decide (Int.toNat q1 < List.length q2)) (.ret (.inl (IntKind.wrap IntKind.i64 (q1 + (1 : Int)), List.set q2 (Int.toNat q1) (Prod.fst (el_iiiiilii q2 q1), Prod.fst (Prod.snd (el_iiiiilii q2 q1)), Prod.fst (Prod.snd (Prod.snd (el_iiiiilii q2 q1))), Prod.fst (Prod.snd (Prod.snd (Prod.snd (el_iiiiilii q2 q1)))), Prod.fst (Prod.snd (Prod.snd (Prod.snd (Prod.snd (el_iiiiilii q2 q1))))), Prod.snd (Prod.snd (Prod.snd (Prod.snd (Prod.snd (el_iiiiilii q2 q1))))))))) (.bad 19)) (.bad 31)) (.bad 74)) (.bad 12)) (.bad 31)) (.ret (.inr (0, (q1, q2))))
set_option maxRecDepth 100000 in
set_option maxHeartbeats 4000000 in
theorem slp_step_eq : ∀ (u : slp_U) (v : slp_V), (evalC Try.prog (evalB Try.prog coD_S54 (opens [35]) coE_L52 7).1 (evalB Try.prog coD_S54 (opens [35]) coE_L52 7).2 (opens [35]) (coE_L52 21) 100000 (0 :: [0, 1, 0, 1, 1, 1]) (loopOf (bodyOf Try.prog 21) [1, 1, 1, 0, 1, 0]) (slp_St u v) []).bind (finF [0, 1, 2, 3, 6, 7, 8, 9, 10, 11, 12, 13, 14, 15, 16, 19, 20, 21, 22, 23, 24, 25, 26, 27, 28, 29, 30, 31, 32] [] [3, 0] [0] 1010) = (slp_step u v).bind (outA (slp_St u) [.exit 0]) := by
  rintro q0 ⟨q1, q2⟩
  kernel_rfl
noncomputable def slp_rd (b : Bool) (o4 : Option AV) (o5 : Option AV) (o17 : Option AV) (o18 : Option AV) (own : Own) : Option (slp_U × slp_V) := zrT b <| zrO o4 fun za1 => zrA1 za1 fun zc2 => zrNil zc2 <| zrO o5 fun za3 => zrA1 za3 fun zc4 => zrSl 3 0 (none) zc4 <| zrO o17 fun za5 => zrA1 za5 fun zc6 => zrI .i64 zc6 fun q0 => zrO o18 fun za7 => zrA1 za7 fun zc8 => zrI .i64 zc8 fun q1 => zrL own fun zq9 zw10 => zrKey 3 zq9 fun zk11 => zrR true 29 (.prod (.int .i64) (.prod (.int .i64) (.prod (.int .i64) (.prod (.int .i64) (.prod (.int .i64) (.list (.prod (.int .i64) (.int .i64)))))))) zk11 fun q2 => zrL zw10 fun zq12 zw13 => zrKey 0 zq12 fun zk14 => zrX zk14 <| zrN zw13 <| some (q0, (q1, q2))
noncomputable def slp_can (st : Stt) : Stt := canA [0, 1, 2, 3, 6, 7, 8, 9, 10, 11, 12, 13, 14, 15, 16, 19, 20, 21, 22, 23, 24, 25, 26, 27, 28, 29, 30, 31, 32] [] [3, 0] [0] 1010 st
noncomputable def slp_cok (st : Stt) : Bool := canAok [0, 1, 2, 3, 6, 7, 8, 9, 10, 11, 12, 13, 14, 15, 16, 19, 20, 21, 22, 23, 24, 25, 26, 27, 28, 29, 30, 31, 32] [] [3, 0] [0] 1010 st
noncomputable def slp_read (st : Stt) : Option (slp_U × slp_V) := slp_rd (slp_cok st && (staysA [] [3, 0] st.own && juAll [0, 1, 2, 3, 6, 7, 8, 9, 10, 11, 12, 13, 14, 15, 16, 19, 20, 21, 22, 23, 24, 25, 26, 27, 28, 29, 30, 31, 32] (slp_can st).tm 33)) (slp_can st).tm[4]? (slp_can st).tm[5]? (slp_can st).tm[17]? (slp_can st).tm[18]? (slp_can st).own
set_option maxRecDepth 100000 in
set_option maxHeartbeats 4000000 in
theorem slp_rd_ok {b : Bool} {tm : List AV} {own : Own} {u : slp_U} {v : slp_V} (hj : b = true → juAll [0, 1, 2, 3, 6, 7, 8, 9, 10, 11, 12, 13, 14, 15, 16, 19, 20, 21, 22, 23, 24, 25, 26, 27, 28, 29, 30, 31, 32] tm 33 = true) (h : slp_rd b tm[4]? tm[5]? tm[17]? tm[18]? own = some (u, v)) : b = true ∧ tm = (slp_St u v).tm ∧ own = (slp_St u v).own := by
  unfold slp_rd at h
  obtain ⟨rfl, h0⟩ := zrT_some h
  obtain ⟨za1, e4, h1⟩ := zrO_some h0
  obtain ⟨zc2, rfl, h2⟩ := zrA1_some h1
  obtain ⟨rfl, h3⟩ := zrNil_some h2
  obtain ⟨za3, e5, h4⟩ := zrO_some h3
  obtain ⟨zc4, rfl, h5⟩ := zrA1_some h4
  obtain ⟨rfl, h6⟩ := zrSl_some h5
  obtain ⟨za5, e17, h7⟩ := zrO_some h6
  obtain ⟨zc6, rfl, h8⟩ := zrA1_some h7
  obtain ⟨q0, rfl, h9⟩ := zrI_some h8
  obtain ⟨za7, e18, h10⟩ := zrO_some h9
  obtain ⟨zc8, rfl, h11⟩ := zrA1_some h10
  obtain ⟨q1, rfl, h12⟩ := zrI_some h11
  obtain ⟨zq9, zw10, rfl, h13⟩ := zrL_some h12
  obtain ⟨zk11, rfl, h14⟩ := zrKey_some h13
  obtain ⟨q2, rfl, h15⟩ := zrR_some h14
  obtain ⟨zq12, zw13, rfl, h16⟩ := zrL_some h15
  obtain ⟨zk14, rfl, h17⟩ := zrKey_some h16
  obtain ⟨rfl, h18⟩ := zrX_some h17
  obtain ⟨rfl, h19⟩ := zrN_some h18
  have h := Option.some.inj h19
  have hu := congrArg Prod.fst h
  have hv := congrArg Prod.snd h
  dsimp only at hu hv
  subst hu
  subst hv
  exact ⟨rfl, (tm_fill (hj rfl) (Lv := [(4, .one (.v false (Value.slice none (0 : Nat) (0 : Nat)))), (5, .one (.s false 3 0 (none))), (17, .one (.v false (.int .i64 q0))), (18, .one (.v false (.int .i64 q1)))]) (by kernel_rfl) ⟨e4, e5, e17, e18, trivial⟩).trans (by kernel_rfl), rfl⟩
theorem slp_read_ok (st : Stt) (u : slp_U) (v : slp_V) (h : slp_read st = some (u, v)) : slp_cok st = true ∧ staysA [] [3, 0] st.own = true ∧ slp_can st = slp_St u v := by
  obtain ⟨h1, h2, h3⟩ := slp_rd_ok (fun hb => by rw [Bool.and_eq_true, Bool.and_eq_true] at hb; exact hb.2.2) h
  rw [Bool.and_eq_true, Bool.and_eq_true] at h1
  refine ⟨h1.1, h1.2.1, ?_⟩
  have e : slp_can st = ⟨(slp_can st).tm, (slp_can st).own, 1010⟩ := by kernel_rfl
  rw [e, h2, h3]
  rfl
noncomputable def slp_cond (u : slp_U) (v : slp_V) : Bool := runC (slp_step u) v
noncomputable def slp_g (u : slp_U) (v : slp_V) : Nat × slp_V := runG (slp_step u) v
theorem slp_hg : ∀ (u : slp_U) (v : slp_V), slp_cond u v = true → loopN (slp_step u) ((fun u v => runF (slp_step u) v) u v) v = some (slp_g u v) := by
  exact fun u v h => run_hg h
noncomputable def slp_m (st : Stt) : Option (Tr (Ex × Stt)) := sumM slp_read slp_cond slp_St slp_g [(0, .exit 0)] st
noncomputable def coE_L53 : FuncId → Loops := addL 21 [0, 1, 0, 1, 1, 1] slp_m coE_L52
set_option maxRecDepth 100000 in
set_option maxHeartbeats 4000000 in
theorem coE_L53_ok : LoopsOK Try.prog coE_L53 :=
  loop_sumF (body := (bodyOf Try.prog 21)) (c := (loopOf (bodyOf Try.prog 21) [1, 1, 1, 0, 1, 0])) (kinds := [.exit 0]) (allow := [(0, .exit 0)]) (St := slp_St) (step := slp_step) (W := [0, 1, 2, 3, 6, 7, 8, 9, 10, 11, 12, 13, 14, 15, 16, 19, 20, 21, 22, 23, 24, 25, 26, 27, 28, 29, 30, 31, 32]) (As := []) (ks := [3, 0]) (dd := [0]) (nx := 1010) (n := 100000) (g := slp_g) (cond := slp_cond) (fuel := (fun u v => runF (slp_step u) v)) (read := slp_read) (by kernel_rfl) (coD_S54_ok) (coE_L52_ok) 7 ⟨Try.f21, by kernel_rfl, by kernel_rfl⟩ (by kernel_rfl) (by kernel_rfl) (by kernel_rfl) slp_step_eq slp_hg slp_read_ok
theorem lij_run {L : List Opn} {v : Int} (h : L.length ≤ 100) : lij_cond (v, L, (L.length : Int)) (0, L) = true ∧ lij_g (v, L, (L.length : Int)) (0, L) = (0, ((L.length : Int), lmt v L)) := lim_run h
theorem set_same {M : List Opn} {j : Nat} (hj : j < M.length) : M.set j (M[j].1, (M[j].2.1, (M[j].2.2.1, (M[j].2.2.2.1, (M[j].2.2.2.2.1, M[j].2.2.2.2.2))))) = M := by
  show M.set j M[j] = M
  exact List.set_getElem_self hj
theorem slo_run {M : List Opn} (h : lOk M = true) : slo_cond (M.length : Int) (0, M) = true ∧ slo_g (M.length : Int) (0, M) = (0, ((M.length : Int), M)) := by
  obtain ⟨hL, hc⟩ := lOk_iff.1 h
  have R := run_steps (step := slo_step (M.length : Int)) (St := fun j => ((j : Int), M)) (n := M.length) (t := (0, ((M.length : Int), M))) (by
    simp only [slo_step, Tr.val, Int.lt_irrefl, decide_false, cond_false]) M.length 0 (Nat.zero_add _) (fun j _ hj => by
    obtain ⟨r3, r4⟩ := room16 (n := (oCs M[j]).length) (by have := hc j hj; omega)
    have r3' : decide (List.length M[j].2.2.2.2.2 * 16 ≤ maxNew) = true := r3
    have r4' : decide (List.length M[j].2.2.2.2.2 ≤ maxLen) = true := r4
    have c3 : decide (j < M.length) = true := decide_eq_true hj
    simp only [slo_step, Tr.val, lt_t hj, nn_t, el_o hj, r3', r4', c3, Int.toNat_natCast, set_same hj, wi1 hj (show (M.length : Int) ≤ 9223372036854775806 by omega), Bool.and_self, cond_true])
  exact R
theorem slp_run {M : List Opn} (h : lOk M = true) : slp_cond (M.length : Int) (0, M) = true ∧ slp_g (M.length : Int) (0, M) = (0, ((M.length : Int), M)) := by
  obtain ⟨hL, hc⟩ := lOk_iff.1 h
  have R := run_steps (step := slp_step (M.length : Int)) (St := fun j => ((j : Int), M)) (n := M.length) (t := (0, ((M.length : Int), M))) (by
    simp only [slp_step, Tr.val, Int.lt_irrefl, decide_false, cond_false]) M.length 0 (Nat.zero_add _) (fun j _ hj => by
    obtain ⟨r3, r4⟩ := room16 (n := (oCs M[j]).length) (by have := hc j hj; omega)
    have r3' : decide (List.length M[j].2.2.2.2.2 * 16 ≤ maxNew) = true := r3
    have r4' : decide (List.length M[j].2.2.2.2.2 ≤ maxLen) = true := r4
    have c3 : decide (j < M.length) = true := decide_eq_true hj
    simp only [slp_step, Tr.val, lt_t hj, nn_t, el_o hj, r3', r4', c3, Int.toNat_natCast, set_same hj, wi1 hj (show (M.length : Int) ≤ 9223372036854775806 by omega), Bool.and_self, cond_true])
  exact R
set_option maxRecDepth 100000 in
theorem swc_tree (L : (Ty.list (.prod (.int .i64) (.prod (.int .i64) (.prod (.int .i64) (.prod (.int .i64) (.prod (.int .i64) (.list (.prod (.int .i64) (.int .i64))))))))).den) (pi : Int) (he : Int) (wa : Int) (tp : Int) (bo : Int) (pa : Int) (sp : Int) (su : Bool) (re : Int) (ga : Int) (br : Int) (sk : Int) (dr : Int) (fe : Int) (tr : Int) (rt : Int) (mt : Int) (mf : Int) (nz : Int) (bd : Int) : evalF Try.prog coD_S54 (opens [35]) coE_L53 9 21 [.one (.d false false (.prod (.int .i64) (.prod (.int .i64) (.prod (.int .i64) (.prod (.int .i64) (.prod (.int .i64) (.list (.prod (.int .i64) (.int .i64)))))))) L), .ag [.v false (.int .i64 pi), .v false (.int .i64 he), .v false (.int .i64 wa), .v false (.int .i64 tp), .v false (.int .i64 bo), .v false (.int .i64 pa), .v false (.int .i64 sp), .v false (.bool su), .v false (.int .i64 re), .v false (.int .i64 ga), .v false (.int .i64 br), .v false (.int .i64 sk), .v false (.int .i64 dr), .v false (.int .i64 fe), .v false (.int .i64 tr), .v false (.int .i64 rt), .v false (.int .i64 mt), .v false (.int .i64 mf), .v false (.int .i64 nz), .v false (.int .i64 bd)]] = .br (((decide (List.length L * (64 : Nat) ≤ maxNew) && decide (List.length L ≤ maxLen)) && (bif sv pi he wa tp bo pa sp su re ga br sk dr fe tr rt mt mf nz bd then ((lOk L && sv pi he wa tp bo pa sp su re ga br sk dr fe tr rt mt mf nz bd) && ((decide (List.length L * (64 : Nat) ≤ maxNew) && decide (List.length L ≤ maxLen)) && ((lij_cond (spV L pi he wa tp bo pa sp su re ga br sk dr fe tr rt mt mf nz bd, L, (↑(List.length L) : Int)) ((0 : Int), L)) && ((Nat.beq (Prod.fst (lij_g (spV L pi he wa tp bo pa sp su re ga br sk dr fe tr rt mt mf nz bd, L, (↑(List.length L) : Int)) ((0 : Int), L))) (0 : Nat)) && ((slo_cond (↑(List.length (Prod.snd (Prod.snd (lij_g (spV L pi he wa tp bo pa sp su re ga br sk dr fe tr rt mt mf nz bd, L, (↑(List.length L) : Int)) ((0 : Int), L))))) : Int) ((0 : Int), Prod.snd (Prod.snd (lij_g (spV L pi he wa tp bo pa sp su re ga br sk dr fe tr rt mt mf nz bd, L, (↑(List.length L) : Int)) ((0 : Int), L))))) && (Nat.beq (Prod.fst (slo_g (↑(List.length (Prod.snd (Prod.snd (lij_g (spV L pi he wa tp bo pa sp su re ga br sk dr fe tr rt mt mf nz bd, L, (↑(List.length L) : Int)) ((0 : Int), L))))) : Int) ((0 : Int), Prod.snd (Prod.snd (lij_g (spV L pi he wa tp bo pa sp su re ga br sk dr fe tr rt mt mf nz bd, L, (↑(List.length L) : Int)) ((0 : Int), L)))))) (0 : Nat))))))) else ((slp_cond (↑(List.length L) : Int) ((0 : Int), L)) && (Nat.beq (Prod.fst (slp_g (↑(List.length L) : Int) ((0 : Int), L))) (0 : Nat)))))) (.ret (.one (.d false false (.prod (.int .i64) (.prod (.int .i64) (.prod (.int .i64) (.prod (.int .i64) (.prod (.int .i64) (.list (.prod (.int .i64) (.int .i64)))))))) (bif sv pi he wa tp bo pa sp su re ga br sk dr fe tr rt mt mf nz bd then Prod.snd (Prod.snd (slo_g (↑(List.length (Prod.snd (Prod.snd (lij_g (spV L pi he wa tp bo pa sp su re ga br sk dr fe tr rt mt mf nz bd, L, (↑(List.length L) : Int)) ((0 : Int), L))))) : Int) ((0 : Int), Prod.snd (Prod.snd (lij_g (spV L pi he wa tp bo pa sp su re ga br sk dr fe tr rt mt mf nz bd, L, (↑(List.length L) : Int)) ((0 : Int), L)))))) else Prod.snd (Prod.snd (slp_g (↑(List.length L) : Int) ((0 : Int), L))))))) (.bad 116) := by kernel_rfl
theorem swc_val (L : (Ty.list (.prod (.int .i64) (.prod (.int .i64) (.prod (.int .i64) (.prod (.int .i64) (.prod (.int .i64) (.list (.prod (.int .i64) (.int .i64))))))))).den) (pi : Int) (he : Int) (wa : Int) (tp : Int) (bo : Int) (pa : Int) (sp : Int) (su : Bool) (re : Int) (ga : Int) (br : Int) (sk : Int) (dr : Int) (fe : Int) (tr : Int) (rt : Int) (mt : Int) (mf : Int) (nz : Int) (bd : Int) (hc : (lOk L) = true) : (.br (((decide (List.length L * (64 : Nat) ≤ maxNew) && decide (List.length L ≤ maxLen)) && (bif sv pi he wa tp bo pa sp su re ga br sk dr fe tr rt mt mf nz bd then ((lOk L && sv pi he wa tp bo pa sp su re ga br sk dr fe tr rt mt mf nz bd) && ((decide (List.length L * (64 : Nat) ≤ maxNew) && decide (List.length L ≤ maxLen)) && ((lij_cond (spV L pi he wa tp bo pa sp su re ga br sk dr fe tr rt mt mf nz bd, L, (↑(List.length L) : Int)) ((0 : Int), L)) && ((Nat.beq (Prod.fst (lij_g (spV L pi he wa tp bo pa sp su re ga br sk dr fe tr rt mt mf nz bd, L, (↑(List.length L) : Int)) ((0 : Int), L))) (0 : Nat)) && ((slo_cond (↑(List.length (Prod.snd (Prod.snd (lij_g (spV L pi he wa tp bo pa sp su re ga br sk dr fe tr rt mt mf nz bd, L, (↑(List.length L) : Int)) ((0 : Int), L))))) : Int) ((0 : Int), Prod.snd (Prod.snd (lij_g (spV L pi he wa tp bo pa sp su re ga br sk dr fe tr rt mt mf nz bd, L, (↑(List.length L) : Int)) ((0 : Int), L))))) && (Nat.beq (Prod.fst (slo_g (↑(List.length (Prod.snd (Prod.snd (lij_g (spV L pi he wa tp bo pa sp su re ga br sk dr fe tr rt mt mf nz bd, L, (↑(List.length L) : Int)) ((0 : Int), L))))) : Int) ((0 : Int), Prod.snd (Prod.snd (lij_g (spV L pi he wa tp bo pa sp su re ga br sk dr fe tr rt mt mf nz bd, L, (↑(List.length L) : Int)) ((0 : Int), L)))))) (0 : Nat))))))) else ((slp_cond (↑(List.length L) : Int) ((0 : Int), L)) && (Nat.beq (Prod.fst (slp_g (↑(List.length L) : Int) ((0 : Int), L))) (0 : Nat)))))) (.ret (.one (.d false false (.prod (.int .i64) (.prod (.int .i64) (.prod (.int .i64) (.prod (.int .i64) (.prod (.int .i64) (.list (.prod (.int .i64) (.int .i64)))))))) (bif sv pi he wa tp bo pa sp su re ga br sk dr fe tr rt mt mf nz bd then Prod.snd (Prod.snd (slo_g (↑(List.length (Prod.snd (Prod.snd (lij_g (spV L pi he wa tp bo pa sp su re ga br sk dr fe tr rt mt mf nz bd, L, (↑(List.length L) : Int)) ((0 : Int), L))))) : Int) ((0 : Int), Prod.snd (Prod.snd (lij_g (spV L pi he wa tp bo pa sp su re ga br sk dr fe tr rt mt mf nz bd, L, (↑(List.length L) : Int)) ((0 : Int), L)))))) else Prod.snd (Prod.snd (slp_g (↑(List.length L) : Int) ((0 : Int), L))))))) (.bad 116) : Tr AV).val = some (.one (.d false false (.prod (.int .i64) (.prod (.int .i64) (.prod (.int .i64) (.prod (.int .i64) (.prod (.int .i64) (.list (.prod (.int .i64) (.int .i64)))))))) (bif sv pi he wa tp bo pa sp su re ga br sk dr fe tr rt mt mf nz bd then lmt (rsV L pi he wa tp bo pa sp su re ga br sk dr fe tr rt mt mf nz bd) L else L))) := by
  have hl := (lOk_iff.1 hc).1
  obtain ⟨r1, r2⟩ := room64 (n := L.length) (by omega)
  show cond _ _ _ = _
  cases hs : sv pi he wa tp bo pa sp su re ga br sk dr fe tr rt mt mf nz bd
  · obtain ⟨q1, q2⟩ := slp_run hc
    simp only [r1, r2, q1, q2, Nat.beq, Bool.and_self, cond_true, cond_false, Tr.val]
  · obtain ⟨q1, q2⟩ := lij_run (v := spV L pi he wa tp bo pa sp su re ga br sk dr fe tr rt mt mf nz bd) hl
    obtain ⟨q3, q4⟩ := slo_run (lmt_ok (v := spV L pi he wa tp bo pa sp su re ga br sk dr fe tr rt mt mf nz bd) hc)
    have e := sp_same hc pi he wa tp bo pa sp re ga br sk dr fe tr rt mt mf nz bd su hs
    simp only [r1, r2, hc, q1, q2, q3, q4, Nat.beq, Bool.and_self, cond_true, Tr.val]
    rw [e]
noncomputable def swc_g : List AV → Option (Tr AV)
  | [.one (.d _ _ (.prod (.int .i64) (.prod (.int .i64) (.prod (.int .i64) (.prod (.int .i64) (.prod (.int .i64) (.list (.prod (.int .i64) (.int .i64)))))))) L), .ag [.v _ (.int .i64 pi), .v _ (.int .i64 he), .v _ (.int .i64 wa), .v _ (.int .i64 tp), .v _ (.int .i64 bo), .v _ (.int .i64 pa), .v _ (.int .i64 sp), .v _ (.bool su), .v _ (.int .i64 re), .v _ (.int .i64 ga), .v _ (.int .i64 br), .v _ (.int .i64 sk), .v _ (.int .i64 dr), .v _ (.int .i64 fe), .v _ (.int .i64 tr), .v _ (.int .i64 rt), .v _ (.int .i64 mt), .v _ (.int .i64 mf), .v _ (.int .i64 nz), .v _ (.int .i64 bd)]] => some (.br (lOk L) (.ret (.one (.d false false (.prod (.int .i64) (.prod (.int .i64) (.prod (.int .i64) (.prod (.int .i64) (.prod (.int .i64) (.list (.prod (.int .i64) (.int .i64)))))))) (bif sv pi he wa tp bo pa sp su re ga br sk dr fe tr rt mt mf nz bd then lmt (rsV L pi he wa tp bo pa sp su re ga br sk dr fe tr rt mt mf nz bd) L else L)))) (.bad 900))
  | _ => none
set_option maxHeartbeats 4000000 in
theorem swc_ok : FunOK Try.prog 21 swc_g := by
  refine fun_ok (by kernel_rfl) (coD_S54_ok) (coE_L53_ok) 9 (On := (opens [35])) (fun args t h => ?_)
  unfold swc_g at h
  split at h
  · rename_i _ _ L _ pi _ he _ wa _ tp _ bo _ pa _ sp _ su _ re _ ga _ br _ sk _ dr _ fe _ tr _ rt _ mt _ mf _ nz _ bd
    simp only [Option.some.injEq] at h
    subst h
    refine ⟨[.one (.d false false (.prod (.int .i64) (.prod (.int .i64) (.prod (.int .i64) (.prod (.int .i64) (.prod (.int .i64) (.list (.prod (.int .i64) (.int .i64)))))))) L), .ag [.v false (.int .i64 pi), .v false (.int .i64 he), .v false (.int .i64 wa), .v false (.int .i64 tp), .v false (.int .i64 bo), .v false (.int .i64 pa), .v false (.int .i64 sp), .v false (.bool su), .v false (.int .i64 re), .v false (.int .i64 ga), .v false (.int .i64 br), .v false (.int .i64 sk), .v false (.int .i64 dr), .v false (.int .i64 fe), .v false (.int .i64 tr), .v false (.int .i64 rt), .v false (.int .i64 mt), .v false (.int .i64 mf), .v false (.int .i64 nz), .v false (.int .i64 bd)]], rfl, fun fr w us h => h, fun r hr => ?_⟩
    obtain ⟨hc, hr⟩ := br_bad hr
    simp only [Tr.val, Option.some.injEq] at hr
    subst hr
    rw [swc_tree]
    exact swc_val L pi he wa tp bo pa sp su re ga br sk dr fe tr rt mt mf nz bd hc
  · cases h
noncomputable def coE_S54 : Sums := addS 21 swc_g coD_S54
theorem coE_S54_ok : SumOK Try.prog coE_S54 := addS_ok (swc_ok) (coD_S54_ok)
abbrev equ_U : Type := Int × Int × Int × Int × Int × Int × (Ty.list (.prod (.int .i64) (.int .i64))).den × Int × Int × Int × Int × Int × (Ty.list (.prod (.int .i64) (.int .i64))).den
abbrev equ_V : Type := Bool × Int
noncomputable def equ_St (u : equ_U) (v : equ_V) : Stt := ⟨[.one .junk, .one .junk, .one (.p 0 0), .one (.p 1 0), .one (.v false (.bool v.1)), .one .junk, .one .junk, .one .junk, .one .junk, .one .junk, .one .junk, .one .junk, .one .junk, .one .junk, .one .junk, .one .junk, .one .junk, .one .junk, .one .junk, .one .junk, .one .junk, .one .junk, .one .junk, .one .junk, .one .junk, .one .junk, .one .junk, .one .junk, .one .junk, .one .junk, .one .junk, .one .junk, .one .junk, .one .junk, .one .junk, .one .junk, .one .junk, .one .junk, .one .junk, .one .junk, .one .junk, .one .junk, .one .junk, .one (.v false (.int .i64 u.1)), .one (.v false (.int .i64 v.2)), .one .junk, .one .junk, .one .junk, .one .junk, .one .junk, .one .junk, .one .junk, .one .junk, .one .junk, .one .junk, .one .junk, .one .junk, .one .junk, .one .junk], [(1, .cells [.v false (.int .i64 u.2.1), .v false (.int .i64 u.2.2.1), .v false (.int .i64 u.2.2.2.1), .v false (.int .i64 u.2.2.2.2.1), .v false (.int .i64 u.2.2.2.2.2.1), .d false false (.prod (.int .i64) (.int .i64)) u.2.2.2.2.2.2.1]), (0, .cells [.v false (.int .i64 u.2.2.2.2.2.2.2.1), .v false (.int .i64 u.2.2.2.2.2.2.2.2.1), .v false (.int .i64 u.2.2.2.2.2.2.2.2.2.1), .v false (.int .i64 u.2.2.2.2.2.2.2.2.2.2.1), .v false (.int .i64 u.2.2.2.2.2.2.2.2.2.2.2.1), .d false false (.prod (.int .i64) (.int .i64)) u.2.2.2.2.2.2.2.2.2.2.2.2])], 1042⟩
def el_ii (l : (Ty.list (Ty.prod (Ty.int IntKind.i64) (Ty.int IntKind.i64))).den) (i : Int) : (Int × Int) := elm (Ty.prod (Ty.int IntKind.i64) (Ty.int IntKind.i64)) l i
noncomputable def equ_step (u : equ_U) (v : equ_V) : Tr (equ_V ⊕ (Nat × equ_V)) :=
  match u, v with
  | (q1, _, _, _, _, _, q8, _, _, _, _, _, q14), (q0, q2) => .br (decide (q2 < q1)) (.br (decide ((0 : Int) ≤ q2) && decide (q2 < (↑(List.length q14) : Int))) (.br (decide ((0 : Int) ≤ q2) && decide (q2 < (↑(List.length q8) : Int))) (.br (!(Prod.fst (el_ii q14 q2) == Prod.fst (el_ii q8 q2) && (Prod.snd (el_ii q14 q2) == Prod.snd (el_ii q8 q2) && true))) (.ret (.inr (0, (false, q2)))) (.ret (.inl (q0, IntKind.wrap IntKind.i64 (q2 + (1 : Int)))))) (.bad 29)) (.bad 29)) (.ret (.inr (1, (q0, q2))))
set_option maxRecDepth 100000 in
set_option maxHeartbeats 4000000 in
theorem equ_step_eq : ∀ (u : equ_U) (v : equ_V), (evalC Try.prog (evalB Try.prog coE_S54 (opens []) coE_L53 7).1 (evalB Try.prog coE_S54 (opens []) coE_L53 7).2 (opens []) (coE_L53 24) 100000 (0 :: [0, 1, 0, 1, 1]) (loopOf (bodyOf Try.prog 24) [1, 1, 0, 1, 0]) (equ_St u v) []).bind (finF [0, 1, 5, 6, 7, 8, 9, 10, 11, 12, 13, 14, 15, 16, 17, 18, 19, 20, 21, 22, 23, 24, 25, 26, 27, 28, 29, 30, 31, 32, 33, 34, 35, 36, 37, 38, 39, 40, 41, 42, 45, 46, 47, 48, 49, 50, 51, 52, 53, 54, 55, 56, 57, 58] [] [1, 0] [] 1042) = (equ_step u v).bind (outA (equ_St u) [.ret, .exit 0]) := by
  rintro ⟨q1, q3, q4, q5, q6, q7, q8, q9, q10, q11, q12, q13, q14⟩ ⟨q0, q2⟩
  kernel_rfl
noncomputable def equ_rd (b : Bool) (o2 : Option AV) (o3 : Option AV) (o4 : Option AV) (o43 : Option AV) (o44 : Option AV) (own : Own) : Option (equ_U × equ_V) := zrT b <| zrO o2 fun za1 => zrA1 za1 fun zc2 => zrP 0 0 zc2 <| zrO o3 fun za3 => zrA1 za3 fun zc4 => zrP 1 0 zc4 <| zrO o4 fun za5 => zrA1 za5 fun zc6 => zrB zc6 fun q0 => zrO o43 fun za7 => zrA1 za7 fun zc8 => zrI .i64 zc8 fun q1 => zrO o44 fun za9 => zrA1 za9 fun zc10 => zrI .i64 zc10 fun q2 => zrL own fun zq11 zw12 => zrKey 1 zq11 fun zk13 => zrC zk13 fun zl14 => zrL zl14 fun zc15 zr16 => zrI .i64 zc15 fun q3 => zrL zr16 fun zc17 zr18 => zrI .i64 zc17 fun q4 => zrL zr18 fun zc19 zr20 => zrI .i64 zc19 fun q5 => zrL zr20 fun zc21 zr22 => zrI .i64 zc21 fun q6 => zrL zr22 fun zc23 zr24 => zrI .i64 zc23 fun q7 => zrL zr24 fun zc25 zr26 => zrD (.prod (.int .i64) (.int .i64)) zc25 fun q8 => zrN zr26 <| zrL zw12 fun zq27 zw28 => zrKey 0 zq27 fun zk29 => zrC zk29 fun zl30 => zrL zl30 fun zc31 zr32 => zrI .i64 zc31 fun q9 => zrL zr32 fun zc33 zr34 => zrI .i64 zc33 fun q10 => zrL zr34 fun zc35 zr36 => zrI .i64 zc35 fun q11 => zrL zr36 fun zc37 zr38 => zrI .i64 zc37 fun q12 => zrL zr38 fun zc39 zr40 => zrI .i64 zc39 fun q13 => zrL zr40 fun zc41 zr42 => zrD (.prod (.int .i64) (.int .i64)) zc41 fun q14 => zrN zr42 <| zrN zw28 <| some ((q1, q3, q4, q5, q6, q7, q8, q9, q10, q11, q12, q13, q14), (q0, q2))
noncomputable def equ_can (st : Stt) : Stt := canA [0, 1, 5, 6, 7, 8, 9, 10, 11, 12, 13, 14, 15, 16, 17, 18, 19, 20, 21, 22, 23, 24, 25, 26, 27, 28, 29, 30, 31, 32, 33, 34, 35, 36, 37, 38, 39, 40, 41, 42, 45, 46, 47, 48, 49, 50, 51, 52, 53, 54, 55, 56, 57, 58] [] [1, 0] [] 1042 st
noncomputable def equ_cok (st : Stt) : Bool := canAok [0, 1, 5, 6, 7, 8, 9, 10, 11, 12, 13, 14, 15, 16, 17, 18, 19, 20, 21, 22, 23, 24, 25, 26, 27, 28, 29, 30, 31, 32, 33, 34, 35, 36, 37, 38, 39, 40, 41, 42, 45, 46, 47, 48, 49, 50, 51, 52, 53, 54, 55, 56, 57, 58] [] [1, 0] [] 1042 st
noncomputable def equ_read (st : Stt) : Option (equ_U × equ_V) := equ_rd (equ_cok st && (staysA [] [1, 0] st.own && juAll [0, 1, 5, 6, 7, 8, 9, 10, 11, 12, 13, 14, 15, 16, 17, 18, 19, 20, 21, 22, 23, 24, 25, 26, 27, 28, 29, 30, 31, 32, 33, 34, 35, 36, 37, 38, 39, 40, 41, 42, 45, 46, 47, 48, 49, 50, 51, 52, 53, 54, 55, 56, 57, 58] (equ_can st).tm 59)) (equ_can st).tm[2]? (equ_can st).tm[3]? (equ_can st).tm[4]? (equ_can st).tm[43]? (equ_can st).tm[44]? (equ_can st).own
set_option maxRecDepth 100000 in
set_option maxHeartbeats 4000000 in
theorem equ_rd_ok {b : Bool} {tm : List AV} {own : Own} {u : equ_U} {v : equ_V} (hj : b = true → juAll [0, 1, 5, 6, 7, 8, 9, 10, 11, 12, 13, 14, 15, 16, 17, 18, 19, 20, 21, 22, 23, 24, 25, 26, 27, 28, 29, 30, 31, 32, 33, 34, 35, 36, 37, 38, 39, 40, 41, 42, 45, 46, 47, 48, 49, 50, 51, 52, 53, 54, 55, 56, 57, 58] tm 59 = true) (h : equ_rd b tm[2]? tm[3]? tm[4]? tm[43]? tm[44]? own = some (u, v)) : b = true ∧ tm = (equ_St u v).tm ∧ own = (equ_St u v).own := by
  unfold equ_rd at h
  obtain ⟨rfl, h0⟩ := zrT_some h
  obtain ⟨za1, e2, h1⟩ := zrO_some h0
  obtain ⟨zc2, rfl, h2⟩ := zrA1_some h1
  obtain ⟨rfl, h3⟩ := zrP_some h2
  obtain ⟨za3, e3, h4⟩ := zrO_some h3
  obtain ⟨zc4, rfl, h5⟩ := zrA1_some h4
  obtain ⟨rfl, h6⟩ := zrP_some h5
  obtain ⟨za5, e4, h7⟩ := zrO_some h6
  obtain ⟨zc6, rfl, h8⟩ := zrA1_some h7
  obtain ⟨q0, rfl, h9⟩ := zrB_some h8
  obtain ⟨za7, e43, h10⟩ := zrO_some h9
  obtain ⟨zc8, rfl, h11⟩ := zrA1_some h10
  obtain ⟨q1, rfl, h12⟩ := zrI_some h11
  obtain ⟨za9, e44, h13⟩ := zrO_some h12
  obtain ⟨zc10, rfl, h14⟩ := zrA1_some h13
  obtain ⟨q2, rfl, h15⟩ := zrI_some h14
  obtain ⟨zq11, zw12, rfl, h16⟩ := zrL_some h15
  obtain ⟨zk13, rfl, h17⟩ := zrKey_some h16
  obtain ⟨zl14, rfl, h18⟩ := zrC_some h17
  obtain ⟨zc15, zr16, rfl, h19⟩ := zrL_some h18
  obtain ⟨q3, rfl, h20⟩ := zrI_some h19
  obtain ⟨zc17, zr18, rfl, h21⟩ := zrL_some h20
  obtain ⟨q4, rfl, h22⟩ := zrI_some h21
  obtain ⟨zc19, zr20, rfl, h23⟩ := zrL_some h22
  obtain ⟨q5, rfl, h24⟩ := zrI_some h23
  obtain ⟨zc21, zr22, rfl, h25⟩ := zrL_some h24
  obtain ⟨q6, rfl, h26⟩ := zrI_some h25
  obtain ⟨zc23, zr24, rfl, h27⟩ := zrL_some h26
  obtain ⟨q7, rfl, h28⟩ := zrI_some h27
  obtain ⟨zc25, zr26, rfl, h29⟩ := zrL_some h28
  obtain ⟨q8, rfl, h30⟩ := zrD_some h29
  obtain ⟨rfl, h31⟩ := zrN_some h30
  obtain ⟨zq27, zw28, rfl, h32⟩ := zrL_some h31
  obtain ⟨zk29, rfl, h33⟩ := zrKey_some h32
  obtain ⟨zl30, rfl, h34⟩ := zrC_some h33
  obtain ⟨zc31, zr32, rfl, h35⟩ := zrL_some h34
  obtain ⟨q9, rfl, h36⟩ := zrI_some h35
  obtain ⟨zc33, zr34, rfl, h37⟩ := zrL_some h36
  obtain ⟨q10, rfl, h38⟩ := zrI_some h37
  obtain ⟨zc35, zr36, rfl, h39⟩ := zrL_some h38
  obtain ⟨q11, rfl, h40⟩ := zrI_some h39
  obtain ⟨zc37, zr38, rfl, h41⟩ := zrL_some h40
  obtain ⟨q12, rfl, h42⟩ := zrI_some h41
  obtain ⟨zc39, zr40, rfl, h43⟩ := zrL_some h42
  obtain ⟨q13, rfl, h44⟩ := zrI_some h43
  obtain ⟨zc41, zr42, rfl, h45⟩ := zrL_some h44
  obtain ⟨q14, rfl, h46⟩ := zrD_some h45
  obtain ⟨rfl, h47⟩ := zrN_some h46
  obtain ⟨rfl, h48⟩ := zrN_some h47
  have h := Option.some.inj h48
  have hu := congrArg Prod.fst h
  have hv := congrArg Prod.snd h
  dsimp only at hu hv
  subst hu
  subst hv
  exact ⟨rfl, (tm_fill (hj rfl) (Lv := [(2, .one (.p 0 0)), (3, .one (.p 1 0)), (4, .one (.v false (.bool q0))), (43, .one (.v false (.int .i64 q1))), (44, .one (.v false (.int .i64 q2)))]) (by kernel_rfl) ⟨e2, e3, e4, e43, e44, trivial⟩).trans (by kernel_rfl), rfl⟩
theorem equ_read_ok (st : Stt) (u : equ_U) (v : equ_V) (h : equ_read st = some (u, v)) : equ_cok st = true ∧ staysA [] [1, 0] st.own = true ∧ equ_can st = equ_St u v := by
  obtain ⟨h1, h2, h3⟩ := equ_rd_ok (fun hb => by rw [Bool.and_eq_true, Bool.and_eq_true] at hb; exact hb.2.2) h
  rw [Bool.and_eq_true, Bool.and_eq_true] at h1
  refine ⟨h1.1, h1.2.1, ?_⟩
  have e : equ_can st = ⟨(equ_can st).tm, (equ_can st).own, 1042⟩ := by kernel_rfl
  rw [e, h2, h3]
  rfl
noncomputable def equ_cond (u : equ_U) (v : equ_V) : Bool := runC (equ_step u) v
noncomputable def equ_g (u : equ_U) (v : equ_V) : Nat × equ_V := runG (equ_step u) v
theorem equ_hg : ∀ (u : equ_U) (v : equ_V), equ_cond u v = true → loopN (equ_step u) ((fun u v => runF (equ_step u) v) u v) v = some (equ_g u v) := by
  exact fun u v h => run_hg h
noncomputable def equ_m (st : Stt) : Option (Tr (Ex × Stt)) := sumM equ_read equ_cond equ_St equ_g [(0, .ret), (1, .exit 0)] st
noncomputable def coE_L55 : FuncId → Loops := addL 24 [0, 1, 0, 1, 1] equ_m coE_L53
set_option maxRecDepth 100000 in
set_option maxHeartbeats 4000000 in
theorem coE_L55_ok : LoopsOK Try.prog coE_L55 :=
  loop_sumF (body := (bodyOf Try.prog 24)) (c := (loopOf (bodyOf Try.prog 24) [1, 1, 0, 1, 0])) (kinds := [.ret, .exit 0]) (allow := [(0, .ret), (1, .exit 0)]) (St := equ_St) (step := equ_step) (W := [0, 1, 5, 6, 7, 8, 9, 10, 11, 12, 13, 14, 15, 16, 17, 18, 19, 20, 21, 22, 23, 24, 25, 26, 27, 28, 29, 30, 31, 32, 33, 34, 35, 36, 37, 38, 39, 40, 41, 42, 45, 46, 47, 48, 49, 50, 51, 52, 53, 54, 55, 56, 57, 58]) (As := []) (ks := [1, 0]) (dd := []) (nx := 1042) (n := 100000) (g := equ_g) (cond := equ_cond) (fuel := (fun u v => runF (equ_step u) v)) (read := equ_read) (by kernel_rfl) (coE_S54_ok) (coE_L53_ok) 7 ⟨Try.f24, by kernel_rfl, by kernel_rfl⟩ (by kernel_rfl) (by kernel_rfl) (by kernel_rfl) equ_step_eq equ_hg equ_read_ok
theorem el_p {L : List (Int × Int)} {i : Nat} (h : i < L.length) : el_ii L (i : Int) = L[i] := elm_lt (t := .prod (.int .i64) (.int .i64)) h
def eqN (k r l z : Int) (C : List (Int × Int)) (k2 r2 l2 z2 : Int) (D : List (Int × Int)) : Bool := decide (k = k2 ∧ r = r2 ∧ l = l2 ∧ z = z2 ∧ C = D)
theorem eq2 (a b : Int × Int) : (a.1 == b.1 && (a.2 == b.2 && true)) = decide (a = b) := by
  obtain ⟨a1, a2⟩ := a
  obtain ⟨b1, b2⟩ := b
  rw [Bool.eq_iff_iff]
  simp
theorem equ_run {C D : List (Int × Int)} (k r l z s k2 r2 l2 z2 s2 : Int) (hl : C.length = D.length) (hn : C.length ≤ 1000) : equ_cond ((C.length : Int), k2, r2, l2, z2, s2, D, k, r, l, z, s, C) (false, 0) = true ∧ ((C = D ∧ equ_g ((C.length : Int), k2, r2, l2, z2, s2, D, k, r, l, z, s, C) (false, 0) = (1, (false, (C.length : Int)))) ∨ (C ≠ D ∧ ∃ j : Nat, equ_g ((C.length : Int), k2, r2, l2, z2, s2, D, k, r, l, z, s, C) (false, 0) = (0, (false, (j : Int))))) := by
  obtain ⟨h1, h2⟩ := run_scan (step := equ_step ((C.length : Int), k2, r2, l2, z2, s2, D, k, r, l, z, s, C)) (St := fun i => (false, (i : Int))) (Lv := fun i => (0, (false, (i : Int)))) (t := (1, (false, (C.length : Int)))) (n := C.length) (p := fun i => decide (el_ii C i = el_ii D i)) (fun i hi => by
    have hi2 : i < D.length := by omega
    simp only [equ_step, Tr.val, lt_t hi, lt_t hi2, nn_t, wi1 hi (show (C.length : Int) ≤ 9223372036854775806 by omega), eq2, Bool.and_self, cond_true]
    cases decide (el_ii C (i : Int) = el_ii D (i : Int)) <;> rfl) (by simp only [equ_step, Tr.val, Int.lt_irrefl, decide_false, cond_false])
  refine ⟨h1, ?_⟩
  rcases h2 with ⟨h, h3⟩ | ⟨j, hj, hp, _, h4⟩
  · refine .inl ⟨list_eq_of hl fun i a b => ?_, h3⟩
    have := of_decide_eq_true (h i a)
    rwa [el_p a, el_p b] at this
  · refine .inr ⟨fun e => ?_, j, h4⟩
    subst e
    simp at hp
set_option maxRecDepth 100000 in
theorem eqc_tree (k : Int) (r : Int) (l : Int) (z : Int) (s : Int) (C : (Ty.list (.prod (.int .i64) (.int .i64))).den) (k2 : Int) (r2 : Int) (l2 : Int) (z2 : Int) (s2 : Int) (D : (Ty.list (.prod (.int .i64) (.int .i64))).den) : evalF Try.prog coE_S54 (opens []) coE_L55 9 24 [.ag [.v false (.int .i64 k), .v false (.int .i64 r), .v false (.int .i64 l), .v false (.int .i64 z), .v false (.int .i64 s), .d false false (.prod (.int .i64) (.int .i64)) C], .ag [.v false (.int .i64 k2), .v false (.int .i64 r2), .v false (.int .i64 l2), .v false (.int .i64 z2), .v false (.int .i64 s2), .d false false (.prod (.int .i64) (.int .i64)) D]] = .br ((bif bif bif bif bif k != k2 then true else r != r2 then true else l != l2 then true else z != z2 then true else (↑(List.length C) : Int) != (↑(List.length D) : Int) then true else ((equ_cond ((↑(List.length C) : Int), k2, r2, l2, z2, s2, D, k, r, l, z, s, C) (false, (0 : Int))) && (bif Nat.beq (Prod.fst (equ_g ((↑(List.length C) : Int), k2, r2, l2, z2, s2, D, k, r, l, z, s, C) (false, (0 : Int)))) (0 : Nat) then true else (Nat.beq (Prod.fst (equ_g ((↑(List.length C) : Int), k2, r2, l2, z2, s2, D, k, r, l, z, s, C) (false, (0 : Int)))) (1 : Nat)))))) (.ret (.one (.v false (.bool (bif bif bif bif bif k != k2 then true else r != r2 then true else l != l2 then true else z != z2 then true else (↑(List.length C) : Int) != (↑(List.length D) : Int) then false else bif Nat.beq (Prod.fst (equ_g ((↑(List.length C) : Int), k2, r2, l2, z2, s2, D, k, r, l, z, s, C) (false, (0 : Int)))) (0 : Nat) then Prod.fst (Prod.snd (equ_g ((↑(List.length C) : Int), k2, r2, l2, z2, s2, D, k, r, l, z, s, C) (false, (0 : Int)))) else true))))) (.bad 116) := by kernel_rfl
theorem eqc_val (k : Int) (r : Int) (l : Int) (z : Int) (s : Int) (C : (Ty.list (.prod (.int .i64) (.int .i64))).den) (k2 : Int) (r2 : Int) (l2 : Int) (z2 : Int) (s2 : Int) (D : (Ty.list (.prod (.int .i64) (.int .i64))).den) (hc : (decide (C.length ≤ 1000)) = true) : (.br ((bif bif bif bif bif k != k2 then true else r != r2 then true else l != l2 then true else z != z2 then true else (↑(List.length C) : Int) != (↑(List.length D) : Int) then true else ((equ_cond ((↑(List.length C) : Int), k2, r2, l2, z2, s2, D, k, r, l, z, s, C) (false, (0 : Int))) && (bif Nat.beq (Prod.fst (equ_g ((↑(List.length C) : Int), k2, r2, l2, z2, s2, D, k, r, l, z, s, C) (false, (0 : Int)))) (0 : Nat) then true else (Nat.beq (Prod.fst (equ_g ((↑(List.length C) : Int), k2, r2, l2, z2, s2, D, k, r, l, z, s, C) (false, (0 : Int)))) (1 : Nat)))))) (.ret (.one (.v false (.bool (bif bif bif bif bif k != k2 then true else r != r2 then true else l != l2 then true else z != z2 then true else (↑(List.length C) : Int) != (↑(List.length D) : Int) then false else bif Nat.beq (Prod.fst (equ_g ((↑(List.length C) : Int), k2, r2, l2, z2, s2, D, k, r, l, z, s, C) (false, (0 : Int)))) (0 : Nat) then Prod.fst (Prod.snd (equ_g ((↑(List.length C) : Int), k2, r2, l2, z2, s2, D, k, r, l, z, s, C) (false, (0 : Int)))) else true))))) (.bad 116) : Tr AV).val = some (.one (.v false (.bool (eqN k r l z C k2 r2 l2 z2 D)))) := by
  have hc := of_decide_eq_true hc
  show cond _ _ _ = _
  unfold eqN
  by_cases hq : k = k2 ∧ r = r2 ∧ l = l2 ∧ z = z2 ∧ C.length = D.length
  · obtain ⟨rfl, rfl, rfl, rfl, hl⟩ := hq
    obtain ⟨v1, v2⟩ := equ_run k r l z s k r l z s2 hl hc
    have b : ((C.length : Int) != (D.length : Int)) = false := by rw [hl]; exact bne_self_eq_false _
    rcases v2 with ⟨rfl, g2⟩ | ⟨g1, j, g2⟩
    · simp [v1, g2, Tr.val, Nat.beq]
    · simp [v1, g1, g2, b, Tr.val, Nat.beq]
  · have e0 : (bif bif bif bif k != k2 then true else r != r2 then true else l != l2 then true else z != z2 then true else (C.length : Int) != (D.length : Int)) = true := by
      rw [← Bool.not_eq_false]
      intro h
      apply hq
      simp [Bool.cond_eq_ite] at h
      omega
    have e1 : ¬ (k = k2 ∧ r = r2 ∧ l = l2 ∧ z = z2 ∧ C = D) := fun h => hq ⟨h.1, h.2.1, h.2.2.1, h.2.2.2.1, by rw [h.2.2.2.2]⟩
    rw [e0]
    simp only [e0, e1, cond_true, Tr.val, decide_false]
noncomputable def eqc_g : List AV → Option (Tr AV)
  | [.ag [.v _ (.int .i64 k), .v _ (.int .i64 r), .v _ (.int .i64 l), .v _ (.int .i64 z), .v _ (.int .i64 s), .d _ _ (.prod (.int .i64) (.int .i64)) C], .ag [.v _ (.int .i64 k2), .v _ (.int .i64 r2), .v _ (.int .i64 l2), .v _ (.int .i64 z2), .v _ (.int .i64 s2), .d _ _ (.prod (.int .i64) (.int .i64)) D]] => some (.br (decide (C.length ≤ 1000)) (.ret (.one (.v false (.bool (eqN k r l z C k2 r2 l2 z2 D))))) (.bad 900))
  | _ => none
set_option maxHeartbeats 4000000 in
theorem eqc_ok : FunOK Try.prog 24 eqc_g := by
  refine fun_ok (by kernel_rfl) (coE_S54_ok) (coE_L55_ok) 9 (On := (opens [])) (fun args t h => ?_)
  unfold eqc_g at h
  split at h
  · rename_i _ k _ r _ l _ z _ s _ _ C _ k2 _ r2 _ l2 _ z2 _ s2 _ _ D
    simp only [Option.some.injEq] at h
    subst h
    refine ⟨[.ag [.v false (.int .i64 k), .v false (.int .i64 r), .v false (.int .i64 l), .v false (.int .i64 z), .v false (.int .i64 s), .d false false (.prod (.int .i64) (.int .i64)) C], .ag [.v false (.int .i64 k2), .v false (.int .i64 r2), .v false (.int .i64 l2), .v false (.int .i64 z2), .v false (.int .i64 s2), .d false false (.prod (.int .i64) (.int .i64)) D]], rfl, fun fr w us h => h, fun r hr => ?_⟩
    obtain ⟨hc, hr⟩ := br_bad hr
    simp only [Tr.val, Option.some.injEq] at hr
    subst hr
    rw [eqc_tree]
    exact eqc_val k r l z s C k2 r2 l2 z2 s2 D hc
  · cases h
noncomputable def coE_S56 : Sums := addS 24 eqc_g coE_S54
theorem coE_S56_ok : SumOK Try.prog coE_S56 := addS_ok (eqc_ok) (coE_S54_ok)
end Go.Proofs.Ytbmdbejoignenaa
