/-
  Layers 7, 15: Reverse, Cut.
-/
import Derived.Test.YtbagcmeeiiohpaaProg
import Derived.Test.YtbagcmeeiiohpaaFvX
import Derived.Test.YtbagcmeeiiohpaaFvZ
import Derived.Test.YtbagcmeeiiohpaaAut
import Derived.Test.YtbagcmeeiiohpaaRd
import Derived.Test.YtbagcmeeiiohpaaPl
import Derived.Test.YtbagcmeeiiohpaaSeA
import Derived.Test.YtbagcmeeiiohpaaSeB
import Derived.Test.YtbagcmeeiiohpaaSeC
namespace Go.Proofs.Ytbagcmeeiiohpaa
open Go
abbrev cut_U : Type := Int × Int × (Ty.list (.prod (.int .i64) (.prod (.int .i64) (.int .i64)))).den × Int × (Ty.list (.prod (.int .i64) (.prod (.int .i64) (.int .i64)))).den × (Ty.list (.prod (.int .i64) (.prod (.int .i64) (.int .i64)))).den
abbrev cut_V : Type := Int × (Ty.list (.prod (.prod (.int .i64) (.int .i64)) (.prod (.int .i64) (.int .i64)))).den
noncomputable def cut_St (u : cut_U) (v : cut_V) : Stt := ⟨[.one .junk, .one (.v false (.int .i64 u.1)), .one (.p 0 0), .one .junk, .one (.v false (Value.slice none (0 : Nat) (0 : Nat))), .one (.v false (.int .i64 u.2.1)), .one .junk, .one (.s false 980 0 (none)), .one .junk, .one .junk, .one .junk, .one .junk, .one .junk, .one .junk, .one .junk, .one .junk, .one .junk, .one .junk, .one .junk, .one .junk, .one .junk, .one .junk, .one .junk, .one .junk, .one .junk, .one (.d false false (.prod (.int .i64) (.prod (.int .i64) (.int .i64))) u.2.2.1), .one (.v false (.int .i64 u.2.2.2.1)), .one (.v false (.int .i64 v.1)), .one .junk, .one .junk, .one .junk, .one .junk, .one .junk, .one .junk, .one .junk, .one .junk, .one .junk, .one .junk, .one .junk, .one .junk, .one .junk, .one .junk, .one .junk, .one .junk, .one .junk, .one .junk, .one .junk, .one .junk, .one .junk, .one .junk, .one .junk, .one .junk, .one .junk, .one .junk, .one .junk, .one .junk, .one .junk, .one .junk, .one .junk, .one .junk, .one .junk, .one .junk, .one .junk], [(0, .cells [.d false false (.prod (.int .i64) (.prod (.int .i64) (.int .i64))) u.2.2.2.2.1, .d false false (.prod (.int .i64) (.prod (.int .i64) (.int .i64))) u.2.2.2.2.2]), (980, .row true false false 63 (.prod (.prod (.int .i64) (.int .i64)) (.prod (.int .i64) (.int .i64))) v.2)], 1019⟩
noncomputable def cut_step (u : cut_U) (v : cut_V) : Tr (cut_V ⊕ (Nat × cut_V)) :=
  match u, v with
  | (q0, _, q2, q3, q5, _), (q4, q7) => .br (decide (q4 < q3)) (.br (decide ((0 : Int) ≤ q4) && decide (q4 < (↑(List.length q2) : Int))) (.br (decide ((0 : Int) ≤ Prod.fst (el_iii q2 q4)) && decide (Prod.fst (el_iii q2 q4) < (↑(List.length q5) : Int))) (.br (decide ((0 : Int) ≤ Prod.fst (Prod.snd (el_iii q2 q4))) && decide (Prod.fst (Prod.snd (el_iii q2 q4)) < (↑(List.length q5) : Int))) (.br (decide ((0 : Int) ≤ Prod.snd (Prod.snd (el_iii q2 q4))) && decide (Prod.snd (Prod.snd (el_iii q2 q4)) < (↑(List.length q5) : Int))) (.br (crs (Prod.fst (el_iii q5 (Prod.fst (el_iii q2 q4))), Prod.fst (Prod.snd (el_iii q5 (Prod.fst (el_iii q2 q4)))), Prod.snd (Prod.snd (el_iii q5 (Prod.fst (el_iii q2 q4))))) (Prod.fst (el_iii q5 (Prod.fst (Prod.snd (el_iii q2 q4)))), Prod.fst (Prod.snd (el_iii q5 (Prod.fst (Prod.snd (el_iii q2 q4))))), Prod.snd (Prod.snd (el_iii q5 (Prod.fst (Prod.snd (el_iii q2 q4)))))) (Prod.fst (el_iii q5 (Prod.snd (Prod.snd (el_iii q2 q4)))), Prod.fst (Prod.snd (el_iii q5 (Prod.snd (Prod.snd (el_iii q2 q4))))), Prod.snd (Prod.snd (el_iii q5 (Prod.snd (Prod.snd (el_iii q2 q4)))))) q0) (.br (decide ((List.length q7 + (1 : Nat)) * (32 : Nat) ≤ maxNew) && decide (List.length q7 + (1 : Nat) ≤ maxLen)) (.ret (.inl (IntKind.wrap IntKind.i64 (q4 + (1 : Int)), q7 ++ [((Prod.fst (Prod.fst (sgm (Prod.fst (el_iii q5 (Prod.fst (el_iii q2 q4))), Prod.fst (Prod.snd (el_iii q5 (Prod.fst (el_iii q2 q4)))), Prod.snd (Prod.snd (el_iii q5 (Prod.fst (el_iii q2 q4))))) (Prod.fst (el_iii q5 (Prod.fst (Prod.snd (el_iii q2 q4)))), Prod.fst (Prod.snd (el_iii q5 (Prod.fst (Prod.snd (el_iii q2 q4))))), Prod.snd (Prod.snd (el_iii q5 (Prod.fst (Prod.snd (el_iii q2 q4)))))) (Prod.fst (el_iii q5 (Prod.snd (Prod.snd (el_iii q2 q4)))), Prod.fst (Prod.snd (el_iii q5 (Prod.snd (Prod.snd (el_iii q2 q4))))), Prod.snd (Prod.snd (el_iii q5 (Prod.snd (Prod.snd (el_iii q2 q4)))))) q0)), Prod.snd (Prod.fst (sgm (Prod.fst (el_iii q5 (Prod.fst (el_iii q2 q4))), Prod.fst (Prod.snd (el_iii q5 (Prod.fst (el_iii q2 q4)))), Prod.snd (Prod.snd (el_iii q5 (Prod.fst (el_iii q2 q4))))) (Prod.fst (el_iii q5 (Prod.fst (Prod.snd (el_iii q2 q4)))), Prod.fst (Prod.snd (el_iii q5 (Prod.fst (Prod.snd (el_iii q2 q4))))), Prod.snd (Prod.snd (el_iii q5 (Prod.fst (Prod.snd (el_iii q2 q4)))))) (Prod.fst (el_iii q5 (Prod.snd (Prod.snd (el_iii q2 q4)))), Prod.fst (Prod.snd (el_iii q5 (Prod.snd (Prod.snd (el_iii q2 q4))))), Prod.snd (Prod.snd (el_iii q5 (Prod.snd (Prod.snd (el_iii q2 q4)))))) q0))), Prod.fst (Prod.snd (sgm (Prod.fst (el_iii q5 (Prod.fst (el_iii q2 q4))), Prod.fst (Prod.snd (el_iii q5 (Prod.fst (el_iii q2 q4)))), Prod.snd (Prod.snd (el_iii q5 (Prod.fst (el_iii q2 q4))))) (Prod.fst (el_iii q5 (Prod.fst (Prod.snd (el_iii q2 q4)))), Prod.fst (Prod.snd (el_iii q5 (Prod.fst (Prod.snd (el_iii q2 q4))))), Prod.snd (Prod.snd (el_iii q5 (Prod.fst (Prod.snd (el_iii q2 q4)))))) (Prod.fst (el_iii q5 (Prod.snd (Prod.snd (el_iii q2 q4)))), Prod.fst (Prod.snd (el_iii q5 (Prod.snd (Prod.snd (el_iii q2 q4))))), Prod.snd (Prod.snd (el_iii q5 (Prod.snd (Prod.snd (el_iii q2 q4)))))) q0)), Prod.snd (Prod.snd (sgm (Prod.fst (el_iii q5 (Prod.fst (el_iii q2 q4))), Prod.fst (Prod.snd (el_iii q5 (Prod.fst (el_iii q2 q4)))), Prod.snd (Prod.snd (el_iii q5 (Prod.fst (el_iii q2 q4))))) (Prod.fst (el_iii q5 (Prod.fst (Prod.snd (el_iii q2 q4)))), Prod.fst (Prod.snd (el_iii q5 (Prod.fst (Prod.snd (el_iii q2 q4))))), Prod.snd (Prod.snd (el_iii q5 (Prod.fst (Prod.snd (el_iii q2 q4)))))) (Prod.fst (el_iii q5 (Prod.snd (Prod.snd (el_iii q2 q4)))), Prod.fst (Prod.snd (el_iii q5 (Prod.snd (Prod.snd (el_iii q2 q4))))), Prod.snd (Prod.snd (el_iii q5 (Prod.snd (Prod.snd (el_iii q2 q4)))))) q0)))]))) (.bad 71)) (.ret (.inl (IntKind.wrap IntKind.i64 (q4 + (1 : Int)), q7)))) (.bad 29)) (.bad 29)) (.bad 29)) (.bad 29)) (.ret (.inr (0, (q4, q7))))
set_option maxRecDepth 100000 in
set_option maxHeartbeats 4000000 in
theorem cut_step_eq : ∀ (u : cut_U) (v : cut_V), (evalC Try.prog (evalB Try.prog seC_S51 (opens []) seB_L54 7).1 (evalB Try.prog seC_S51 (opens []) seB_L54 7).2 (opens []) (seB_L54 18) 100000 (0 :: [0, 1, 0, 1, 1, 1, 1]) (loopOf (bodyOf Try.prog 18) [1, 1, 1, 1, 0, 1, 0]) (cut_St u v) []).bind (finF [0, 3, 6, 8, 9, 10, 11, 12, 13, 14, 15, 16, 17, 18, 19, 20, 21, 22, 23, 24, 28, 29, 30, 31, 32, 33, 34, 35, 36, 37, 38, 39, 40, 41, 42, 43, 44, 45, 46, 47, 48, 49, 50, 51, 52, 53, 54, 55, 56, 57, 58, 59, 60, 61, 62] [⟨980, some 7, 0, 0, 63, (.prod (.prod (.int .i64) (.int .i64)) (.prod (.int .i64) (.int .i64)))⟩] [0, 980] [1058] 1019) = (cut_step u v).bind (outA (cut_St u) [.exit 0]) := by
  rintro ⟨q0, q1, q2, q3, q5, q6⟩ ⟨q4, q7⟩
  kernel_rfl
noncomputable def cut_rd (b : Bool) (o1 : Option AV) (o2 : Option AV) (o4 : Option AV) (o5 : Option AV) (o7 : Option AV) (o25 : Option AV) (o26 : Option AV) (o27 : Option AV) (own : Own) : Option (cut_U × cut_V) := zrT b <| zrO o1 fun za1 => zrA1 za1 fun zc2 => zrI .i64 zc2 fun q0 => zrO o2 fun za3 => zrA1 za3 fun zc4 => zrP 0 0 zc4 <| zrO o4 fun za5 => zrA1 za5 fun zc6 => zrNil zc6 <| zrO o5 fun za7 => zrA1 za7 fun zc8 => zrI .i64 zc8 fun q1 => zrO o7 fun za9 => zrA1 za9 fun zc10 => zrSl 980 0 (none) zc10 <| zrO o25 fun za11 => zrA1 za11 fun zc12 => zrD (.prod (.int .i64) (.prod (.int .i64) (.int .i64))) zc12 fun q2 => zrO o26 fun za13 => zrA1 za13 fun zc14 => zrI .i64 zc14 fun q3 => zrO o27 fun za15 => zrA1 za15 fun zc16 => zrI .i64 zc16 fun q4 => zrL own fun zq17 zw18 => zrKey 0 zq17 fun zk19 => zrC zk19 fun zl20 => zrL zl20 fun zc21 zr22 => zrD (.prod (.int .i64) (.prod (.int .i64) (.int .i64))) zc21 fun q5 => zrL zr22 fun zc23 zr24 => zrD (.prod (.int .i64) (.prod (.int .i64) (.int .i64))) zc23 fun q6 => zrN zr24 <| zrL zw18 fun zq25 zw26 => zrKey 980 zq25 fun zk27 => zrR true 63 (.prod (.prod (.int .i64) (.int .i64)) (.prod (.int .i64) (.int .i64))) zk27 fun q7 => zrN zw26 <| some ((q0, q1, q2, q3, q5, q6), (q4, q7))
noncomputable def cut_can (st : Stt) : Stt := canA [0, 3, 6, 8, 9, 10, 11, 12, 13, 14, 15, 16, 17, 18, 19, 20, 21, 22, 23, 24, 28, 29, 30, 31, 32, 33, 34, 35, 36, 37, 38, 39, 40, 41, 42, 43, 44, 45, 46, 47, 48, 49, 50, 51, 52, 53, 54, 55, 56, 57, 58, 59, 60, 61, 62] [⟨980, some 7, 0, 0, 63, (.prod (.prod (.int .i64) (.int .i64)) (.prod (.int .i64) (.int .i64)))⟩] [0, 980] [1058] 1019 st
noncomputable def cut_cok (st : Stt) : Bool := canAok [0, 3, 6, 8, 9, 10, 11, 12, 13, 14, 15, 16, 17, 18, 19, 20, 21, 22, 23, 24, 28, 29, 30, 31, 32, 33, 34, 35, 36, 37, 38, 39, 40, 41, 42, 43, 44, 45, 46, 47, 48, 49, 50, 51, 52, 53, 54, 55, 56, 57, 58, 59, 60, 61, 62] [⟨980, some 7, 0, 0, 63, (.prod (.prod (.int .i64) (.int .i64)) (.prod (.int .i64) (.int .i64)))⟩] [0, 980] [1058] 1019 st
noncomputable def cut_read (st : Stt) : Option (cut_U × cut_V) := cut_rd (cut_cok st && (staysA [⟨980, some 7, 0, 0, 63, (.prod (.prod (.int .i64) (.int .i64)) (.prod (.int .i64) (.int .i64)))⟩] [0, 980] st.own && juAll [0, 3, 6, 8, 9, 10, 11, 12, 13, 14, 15, 16, 17, 18, 19, 20, 21, 22, 23, 24, 28, 29, 30, 31, 32, 33, 34, 35, 36, 37, 38, 39, 40, 41, 42, 43, 44, 45, 46, 47, 48, 49, 50, 51, 52, 53, 54, 55, 56, 57, 58, 59, 60, 61, 62] (cut_can st).tm 63)) (cut_can st).tm[1]? (cut_can st).tm[2]? (cut_can st).tm[4]? (cut_can st).tm[5]? (cut_can st).tm[7]? (cut_can st).tm[25]? (cut_can st).tm[26]? (cut_can st).tm[27]? (cut_can st).own
set_option maxRecDepth 100000 in
set_option maxHeartbeats 4000000 in
theorem cut_rd_ok {b : Bool} {tm : List AV} {own : Own} {u : cut_U} {v : cut_V} (hj : b = true → juAll [0, 3, 6, 8, 9, 10, 11, 12, 13, 14, 15, 16, 17, 18, 19, 20, 21, 22, 23, 24, 28, 29, 30, 31, 32, 33, 34, 35, 36, 37, 38, 39, 40, 41, 42, 43, 44, 45, 46, 47, 48, 49, 50, 51, 52, 53, 54, 55, 56, 57, 58, 59, 60, 61, 62] tm 63 = true) (h : cut_rd b tm[1]? tm[2]? tm[4]? tm[5]? tm[7]? tm[25]? tm[26]? tm[27]? own = some (u, v)) : b = true ∧ tm = (cut_St u v).tm ∧ own = (cut_St u v).own := by
  unfold cut_rd at h
  obtain ⟨rfl, h0⟩ := zrT_some h
  obtain ⟨za1, e1, h1⟩ := zrO_some h0
  obtain ⟨zc2, rfl, h2⟩ := zrA1_some h1
  obtain ⟨q0, rfl, h3⟩ := zrI_some h2
  obtain ⟨za3, e2, h4⟩ := zrO_some h3
  obtain ⟨zc4, rfl, h5⟩ := zrA1_some h4
  obtain ⟨rfl, h6⟩ := zrP_some h5
  obtain ⟨za5, e4, h7⟩ := zrO_some h6
  obtain ⟨zc6, rfl, h8⟩ := zrA1_some h7
  obtain ⟨rfl, h9⟩ := zrNil_some h8
  obtain ⟨za7, e5, h10⟩ := zrO_some h9
  obtain ⟨zc8, rfl, h11⟩ := zrA1_some h10
  obtain ⟨q1, rfl, h12⟩ := zrI_some h11
  obtain ⟨za9, e7, h13⟩ := zrO_some h12
  obtain ⟨zc10, rfl, h14⟩ := zrA1_some h13
  obtain ⟨rfl, h15⟩ := zrSl_some h14
  obtain ⟨za11, e25, h16⟩ := zrO_some h15
  obtain ⟨zc12, rfl, h17⟩ := zrA1_some h16
  obtain ⟨q2, rfl, h18⟩ := zrD_some h17
  obtain ⟨za13, e26, h19⟩ := zrO_some h18
  obtain ⟨zc14, rfl, h20⟩ := zrA1_some h19
  obtain ⟨q3, rfl, h21⟩ := zrI_some h20
  obtain ⟨za15, e27, h22⟩ := zrO_some h21
  obtain ⟨zc16, rfl, h23⟩ := zrA1_some h22
  obtain ⟨q4, rfl, h24⟩ := zrI_some h23
  obtain ⟨zq17, zw18, rfl, h25⟩ := zrL_some h24
  obtain ⟨zk19, rfl, h26⟩ := zrKey_some h25
  obtain ⟨zl20, rfl, h27⟩ := zrC_some h26
  obtain ⟨zc21, zr22, rfl, h28⟩ := zrL_some h27
  obtain ⟨q5, rfl, h29⟩ := zrD_some h28
  obtain ⟨zc23, zr24, rfl, h30⟩ := zrL_some h29
  obtain ⟨q6, rfl, h31⟩ := zrD_some h30
  obtain ⟨rfl, h32⟩ := zrN_some h31
  obtain ⟨zq25, zw26, rfl, h33⟩ := zrL_some h32
  obtain ⟨zk27, rfl, h34⟩ := zrKey_some h33
  obtain ⟨q7, rfl, h35⟩ := zrR_some h34
  obtain ⟨rfl, h36⟩ := zrN_some h35
  have h := Option.some.inj h36
  have hu := congrArg Prod.fst h
  have hv := congrArg Prod.snd h
  dsimp only at hu hv
  subst hu
  subst hv
  exact ⟨rfl, (tm_fill (hj rfl) (Lv := [(1, .one (.v false (.int .i64 q0))), (2, .one (.p 0 0)), (4, .one (.v false (Value.slice none (0 : Nat) (0 : Nat)))), (5, .one (.v false (.int .i64 q1))), (7, .one (.s false 980 0 (none))), (25, .one (.d false false (.prod (.int .i64) (.prod (.int .i64) (.int .i64))) q2)), (26, .one (.v false (.int .i64 q3))), (27, .one (.v false (.int .i64 q4)))]) (by kernel_rfl) ⟨e1, e2, e4, e5, e7, e25, e26, e27, trivial⟩).trans (by kernel_rfl), rfl⟩
theorem cut_read_ok (st : Stt) (u : cut_U) (v : cut_V) (h : cut_read st = some (u, v)) : cut_cok st = true ∧ staysA [⟨980, some 7, 0, 0, 63, (.prod (.prod (.int .i64) (.int .i64)) (.prod (.int .i64) (.int .i64)))⟩] [0, 980] st.own = true ∧ cut_can st = cut_St u v := by
  obtain ⟨h1, h2, h3⟩ := cut_rd_ok (fun hb => by rw [Bool.and_eq_true, Bool.and_eq_true] at hb; exact hb.2.2) h
  rw [Bool.and_eq_true, Bool.and_eq_true] at h1
  refine ⟨h1.1, h1.2.1, ?_⟩
  have e : cut_can st = ⟨(cut_can st).tm, (cut_can st).own, 1019⟩ := by kernel_rfl
  rw [e, h2, h3]
  rfl
noncomputable def cut_cond (u : cut_U) (v : cut_V) : Bool := runC (cut_step u) v
noncomputable def cut_g (u : cut_U) (v : cut_V) : Nat × cut_V := runG (cut_step u) v
theorem cut_hg : ∀ (u : cut_U) (v : cut_V), cut_cond u v = true → loopN (cut_step u) ((fun u v => runF (cut_step u) v) u v) v = some (cut_g u v) := by
  exact fun u v h => run_hg h
noncomputable def cut_m (st : Stt) : Option (Tr (Ex × Stt)) := sumM cut_read cut_cond cut_St cut_g [(0, .exit 0)] st
noncomputable def seD_L51 : FuncId → Loops := addL 18 [0, 1, 0, 1, 1, 1, 1] cut_m seB_L54
set_option maxRecDepth 100000 in
set_option maxHeartbeats 4000000 in
theorem seD_L51_ok : LoopsOK Try.prog seD_L51 :=
  loop_sumF (body := (bodyOf Try.prog 18)) (c := (loopOf (bodyOf Try.prog 18) [1, 1, 1, 1, 0, 1, 0])) (kinds := [.exit 0]) (allow := [(0, .exit 0)]) (St := cut_St) (step := cut_step) (W := [0, 3, 6, 8, 9, 10, 11, 12, 13, 14, 15, 16, 17, 18, 19, 20, 21, 22, 23, 24, 28, 29, 30, 31, 32, 33, 34, 35, 36, 37, 38, 39, 40, 41, 42, 43, 44, 45, 46, 47, 48, 49, 50, 51, 52, 53, 54, 55, 56, 57, 58, 59, 60, 61, 62]) (As := [⟨980, some 7, 0, 0, 63, (.prod (.prod (.int .i64) (.int .i64)) (.prod (.int .i64) (.int .i64)))⟩]) (ks := [0, 980]) (dd := [1058]) (nx := 1019) (n := 100000) (g := cut_g) (cond := cut_cond) (fuel := (fun u v => runF (cut_step u) v)) (read := cut_read) (by kernel_rfl) (seC_S51_ok) (seB_L54_ok) 7 ⟨Try.f18, by kernel_rfl, by kernel_rfl⟩ (by kernel_rfl) (by kernel_rfl) (by kernel_rfl) cut_step_eq cut_hg cut_read_ok
def cT (V : List (Int × (Int × Int))) (t : Int × (Int × Int)) (z : Int) : Bool := crs (el_iii V t.1) (el_iii V t.2.1) (el_iii V t.2.2) z
def sT (V : List (Int × (Int × Int))) (t : Int × (Int × Int)) (z : Int) : (Int × Int) × (Int × Int) := sgm (el_iii V t.1) (el_iii V t.2.1) (el_iii V t.2.2) z
def cuts (V : List (Int × (Int × Int))) (z : Int) (T : List (Int × (Int × Int))) : List ((Int × Int) × (Int × Int)) := T.filterMap fun t => bif cT V t z then some (sT V t z) else none
def okZ (z : Int) : Bool := !(bif decide (z < (-65536 : Int)) then true else decide (z > (65536 : Int)))
def cutL (V T : List (Int × (Int × Int))) (z : Int) : List ((Int × Int) × (Int × Int)) := bif chk V T != (0 : Int) then [] else bif okZ z then cuts V z T else []
def cutE (V T : List (Int × (Int × Int))) (z : Int) : Int := bif chk V T != (0 : Int) then chk V T else bif okZ z then 0 else 8
def rvT (t : Int × (Int × Int)) : Int × (Int × Int) := (t.1, (t.2.2, t.2.1))
def rvV (V T : List (Int × (Int × Int))) : List (Int × (Int × Int)) := bif chk V T != (0 : Int) then [] else V
def rvL (V T : List (Int × (Int × Int))) : List (Int × (Int × Int)) := bif chk V T != (0 : Int) then [] else T.map rvT
theorem chk0 {V T : List (Int × (Int × Int))} (h : chk V T = 0) : (V.length : Int) ≤ 4096 ∧ (T.length : Int) ≤ 4096 ∧ vGood V = true ∧ tGood V.length T = true := by
  unfold chk at h
  cases h1 : (decide ((V.length : Int) ≤ 4096) && decide ((T.length : Int) ≤ 4096))
  · rw [h1] at h; simp at h
  · rw [h1, cond_true] at h
    simp only [Bool.and_eq_true, decide_eq_true_eq] at h1
    cases h2 : vGood V
    · rw [h2] at h; simp at h
    · rw [h2, cond_true] at h
      cases h3 : tGood V.length T
      · rw [h3] at h; simp at h
      · exact ⟨h1.1, h1.2, rfl, rfl⟩
theorem tOk_at {n : Int} {T : List (Int × (Int × Int))} (h : tGood n T = true) {j : Nat} (hj : j < T.length) : 0 ≤ T[j].1 ∧ T[j].1 < n ∧ 0 ≤ T[j].2.1 ∧ T[j].2.1 < n ∧ 0 ≤ T[j].2.2 ∧ T[j].2.2 < n :=
  of_decide_eq_true (List.all_eq_true.1 h _ (List.getElem_mem hj))
theorem take_s {α : Type} {l : List α} {j : Nat} (h : j < l.length) : l.take (j + 1) = l.take j ++ [l[j]] := (List.take_append_getElem h).symm
theorem cuts_len (V : List (Int × (Int × Int))) (z : Int) (T : List (Int × (Int × Int))) : (cuts V z T).length ≤ T.length := List.length_filterMap_le _ _
theorem room32 {n : Nat} (h : n < 4096) : decide ((n + 1) * 32 ≤ maxNew) = true ∧ decide (n + 1 ≤ maxLen) = true ∧ decide ((n + 1) * 24 ≤ maxNew) = true :=
  ⟨decide_eq_true (by unfold maxNew; omega), decide_eq_true (by unfold maxLen; omega), decide_eq_true (by unfold maxNew; omega)⟩
theorem cut_run {V T : List (Int × (Int × Int))} (z : Int) (h : chk V T = 0) : cut_cond (z, 0, T, (T.length : Int), V, T) (0, []) = true ∧ cut_g (z, 0, T, (T.length : Int), V, T) (0, []) = (0, ((T.length : Int), cuts V z T)) := by
  obtain ⟨hV, hT, hv, ht⟩ := chk0 h
  have R := run_steps (step := cut_step (z, 0, T, (T.length : Int), V, T)) (St := fun j => ((j : Int), cuts V z (T.take j))) (n := T.length) (t := (0, ((T.length : Int), cuts V z T))) (by
    simp only [cut_step, Tr.val, Int.lt_irrefl, decide_false, cond_false, List.take_length]) T.length 0 (Nat.zero_add _) (fun j _ hj => by
    have c1 : decide ((j : Int) < (T.length : Int)) = true := decide_eq_true (by omega)
    have c2 : decide ((0 : Int) ≤ (j : Int)) = true := decide_eq_true (by omega)
    obtain ⟨i1, i2, i3, i4, i5, i6⟩ := tOk_at ht hj
    have hl := cuts_len V z (T.take j)
    rw [List.length_take] at hl
    obtain ⟨r1, r2, _⟩ := room32 (n := (cuts V z (T.take j)).length) (by omega)
    have e : cuts V z (T.take (j + 1)) = bif cT V T[j] z then cuts V z (T.take j) ++ [sT V T[j] z] else cuts V z (T.take j) := by
      rw [take_s hj]
      unfold cuts
      rw [List.filterMap_append]
      cases hc : cT V T[j] z <;> simp [hc]
    rw [e]
    simp only [cut_step, Tr.val, c1, c2, el_get hj, decide_eq_true i1, decide_eq_true i2, decide_eq_true i3, decide_eq_true i4, decide_eq_true i5, decide_eq_true i6, r1, r2, wi1 hj hT, Bool.and_self, cond_true]
    show (bif cT V T[j] z then _ else _) = _
    cases cT V T[j] z <;> rfl)
  exact R
theorem bne0 {x : Int} (h : ¬ x = 0) : (x != 0) = true := by simp [h]
theorem capV {n : Nat} (h : (n : Int) ≤ 4096) : decide (n * 24 ≤ maxNew) = true ∧ decide (n ≤ maxLen) = true := ⟨decide_eq_true (by unfold maxNew; omega), decide_eq_true (by unfold maxLen; omega)⟩
set_option maxRecDepth 100000 in
theorem cuc_tree (V : (Ty.list (.prod (.int .i64) (.prod (.int .i64) (.int .i64)))).den) (T : (Ty.list (.prod (.int .i64) (.prod (.int .i64) (.int .i64)))).den) (z : Int) : evalF Try.prog seC_S51 (opens []) seD_L51 9 18 [.ag [.d false false (.prod (.int .i64) (.prod (.int .i64) (.int .i64))) V, .d false false (.prod (.int .i64) (.prod (.int .i64) (.int .i64))) T], .one (.v false (.int .i64 z))] = .br ((bif chk V T != (0 : Int) then true else (bif bif decide (z < (-65536 : Int)) then true else decide (z > (65536 : Int)) then true else ((cut_cond (z, (0 : Int), T, (↑(List.length T) : Int), V, T) ((0 : Int), [])) && (Nat.beq (Prod.fst (cut_g (z, (0 : Int), T, (↑(List.length T) : Int), V, T) ((0 : Int), []))) (0 : Nat)))))) (.ret (.tup [(false, [.d false false (.prod (.prod (.int .i64) (.int .i64)) (.prod (.int .i64) (.int .i64))) (bif chk V T != (0 : Int) then [] else bif bif decide (z < (-65536 : Int)) then true else decide (z > (65536 : Int)) then [] else Prod.snd (Prod.snd (cut_g (z, (0 : Int), T, (↑(List.length T) : Int), V, T) ((0 : Int), []))))]), (false, [.v false (.int .i64 (bif chk V T != (0 : Int) then chk V T else bif bif decide (z < (-65536 : Int)) then true else decide (z > (65536 : Int)) then (8 : Int) else (0 : Int)))])])) (.bad 116) := by kernel_rfl
set_option maxHeartbeats 4000000 in
theorem cuc_val (V : (Ty.list (.prod (.int .i64) (.prod (.int .i64) (.int .i64)))).den) (T : (Ty.list (.prod (.int .i64) (.prod (.int .i64) (.int .i64)))).den) (z : Int) : (.br ((bif chk V T != (0 : Int) then true else (bif bif decide (z < (-65536 : Int)) then true else decide (z > (65536 : Int)) then true else ((cut_cond (z, (0 : Int), T, (↑(List.length T) : Int), V, T) ((0 : Int), [])) && (Nat.beq (Prod.fst (cut_g (z, (0 : Int), T, (↑(List.length T) : Int), V, T) ((0 : Int), []))) (0 : Nat)))))) (.ret (.tup [(false, [.d false false (.prod (.prod (.int .i64) (.int .i64)) (.prod (.int .i64) (.int .i64))) (bif chk V T != (0 : Int) then [] else bif bif decide (z < (-65536 : Int)) then true else decide (z > (65536 : Int)) then [] else Prod.snd (Prod.snd (cut_g (z, (0 : Int), T, (↑(List.length T) : Int), V, T) ((0 : Int), []))))]), (false, [.v false (.int .i64 (bif chk V T != (0 : Int) then chk V T else bif bif decide (z < (-65536 : Int)) then true else decide (z > (65536 : Int)) then (8 : Int) else (0 : Int)))])])) (.bad 116) : Tr AV).val = some (.tup [(false, [.d false false (.prod (.prod (.int .i64) (.int .i64)) (.prod (.int .i64) (.int .i64))) (cutL V T z)]), (false, [.v false (.int .i64 (cutE V T z))])]) := by
  show cond _ _ _ = _
  unfold cutL cutE okZ
  by_cases h : chk V T = 0
  · obtain ⟨r1, r2⟩ := cut_run (V := V) (T := T) z h
    simp only [h, r1, r2, bne_self_eq_false, cond_false, Nat.beq, Bool.and_self]
    cases (bif decide (z < (-65536 : Int)) then true else decide (z > (65536 : Int))) <;> rfl
  · simp only [bne0 h, cond_true, Tr.val]
noncomputable def cuc_g : List AV → Option (Tr AV)
  | [.ag [.d _ _ (.prod (.int .i64) (.prod (.int .i64) (.int .i64))) V, .d _ _ (.prod (.int .i64) (.prod (.int .i64) (.int .i64))) T], .one (.v _ (.int .i64 z))] => some (.ret (.tup [(false, [.d false false (.prod (.prod (.int .i64) (.int .i64)) (.prod (.int .i64) (.int .i64))) (cutL V T z)]), (false, [.v false (.int .i64 (cutE V T z))])]))
  | _ => none
set_option maxHeartbeats 4000000 in
theorem cuc_ok : FunOK Try.prog 18 cuc_g := by
  refine fun_ok (by kernel_rfl) (seC_S51_ok) (seD_L51_ok) 9 (On := (opens [])) (fun args t h => ?_)
  unfold cuc_g at h
  split at h
  · rename_i _ _ V _ _ T _ z
    simp only [Option.some.injEq] at h
    subst h
    refine ⟨[.ag [.d false false (.prod (.int .i64) (.prod (.int .i64) (.int .i64))) V, .d false false (.prod (.int .i64) (.prod (.int .i64) (.int .i64))) T], .one (.v false (.int .i64 z))], rfl, fun fr w us h => h, fun r hr => ?_⟩
    simp only [Tr.val, Option.some.injEq] at hr
    subst hr
    rw [cuc_tree]
    exact cuc_val V T z
  · cases h
noncomputable def seD_S52 : Sums := addS 18 cuc_g seC_S51
theorem seD_S52_ok : SumOK Try.prog seD_S52 := addS_ok (cuc_ok) (seC_S51_ok)
end Go.Proofs.Ytbagcmeeiiohpaa
