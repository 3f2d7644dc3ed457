/-
  Layer 36: few operations, times.
-/
import Derived.Test.YtbmdbejoignenaaProg
import Derived.Test.YtbmdbejoignenaaFvX
import Derived.Test.YtbmdbejoignenaaFvZ
import Derived.Test.YtbmdbejoignenaaAut
import Derived.Test.YtbmdbejoignenaaRd
import Derived.Test.YtbmdbejoignenaaPl
import Derived.Test.YtbmdbejoignenaaScn
namespace Go.Proofs.Ytbmdbejoignenaa
open Go
set_option maxRecDepth 100000 in
theorem aw19_tree : evalF Try.prog S0 (opens [35]) L0 9 19 [] = .ret (.one (.v true (.bool true))) := by kernel_rfl
noncomputable def coA_S52 : Sums := addS 19 gTrue S0
theorem coA_S52_ok : SumOK Try.prog coA_S52 := addS_ok (gTrue_ok (by kernel_rfl) (S0_ok _) (L0_ok _) aw19_tree) (S0_ok _)
abbrev cfe_U : Type := (Ty.list (.prod (.int .i64) (.prod (.int .i64) (.prod (.int .i64) (.prod (.int .i64) (.prod (.int .i64) (.list (.prod (.int .i64) (.int .i64))))))))).den
abbrev cfe_V : Type := Int × (Ty.list (.prod (.int .i64) (.prod (.int .i64) (.prod (.int .i64) (.prod (.int .i64) (.prod (.int .i64) (.list (.prod (.int .i64) (.int .i64))))))))).den
noncomputable def cfe_St (u : cfe_U) (v : cfe_V) : Stt := ⟨[.one (.d false false (.prod (.int .i64) (.prod (.int .i64) (.prod (.int .i64) (.prod (.int .i64) (.prod (.int .i64) (.list (.prod (.int .i64) (.int .i64)))))))) u), .one .junk, .one (.v false (Value.slice none (0 : Nat) (0 : Nat))), .one (.s false 980 0 (none)), .one (.v false (.int .i64 v.1)), .one .junk, .one .junk, .one .junk, .one .junk, .one .junk, .one .junk, .one .junk, .one .junk, .one .junk, .one .junk, .one .junk, .one .junk, .one .junk, .one .junk, .one .junk, .one .junk, .one .junk, .one .junk, .one .junk, .one .junk, .one .junk, .one .junk, .one .junk, .one .junk, .one .junk], [(980, .row true false false 29 (.prod (.int .i64) (.prod (.int .i64) (.prod (.int .i64) (.prod (.int .i64) (.prod (.int .i64) (.list (.prod (.int .i64) (.int .i64)))))))) v.2)], 1003⟩
def el_iiiiilii (l : (Ty.list (Ty.prod (Ty.int IntKind.i64) (Ty.prod (Ty.int IntKind.i64) (Ty.prod (Ty.int IntKind.i64) (Ty.prod (Ty.int IntKind.i64) (Ty.prod (Ty.int IntKind.i64) (Ty.list (Ty.prod (Ty.int IntKind.i64) (Ty.int IntKind.i64))))))))).den) (i : Int) : (Int × (Int × (Int × (Int × (Int × (List (Int × Int))))))) := elm (Ty.prod (Ty.int IntKind.i64) (Ty.prod (Ty.int IntKind.i64) (Ty.prod (Ty.int IntKind.i64) (Ty.prod (Ty.int IntKind.i64) (Ty.prod (Ty.int IntKind.i64) (Ty.list (Ty.prod (Ty.int IntKind.i64) (Ty.int IntKind.i64)))))))) l i
noncomputable def cfe_step (u : cfe_U) (v : cfe_V) : Tr (cfe_V ⊕ (Nat × cfe_V)) :=
  match u, v with
  | q0, (q1, q2) => .br (bif decide (q1 < (↑(List.length q0) : Int)) then decide (q1 < (40 : Int)) else false) (.br (decide ((0 : Int) ≤ q1) && decide (q1 < (↑(List.length q0) : Int))) (.br (decide ((↑(List.length (Prod.snd (Prod.snd (Prod.snd (Prod.snd (Prod.snd (el_iiiiilii q0 q1))))))) : Int) ≤ (300 : Int))) (.br (decide ((0 : Int) ≤ q1) && decide (q1 < (↑(List.length q0) : Int))) (.br (decide ((List.length q2 + (1 : Nat)) * (64 : Nat) ≤ maxNew) && decide (List.length q2 + (1 : Nat) ≤ maxLen)) (.ret (.inl (IntKind.wrap IntKind.i64 (q1 + (1 : Int)), q2 ++ [(Prod.fst (el_iiiiilii q0 q1), Prod.fst (Prod.snd (el_iiiiilii q0 q1)), Prod.fst (Prod.snd (Prod.snd (el_iiiiilii q0 q1))), Prod.fst (Prod.snd (Prod.snd (Prod.snd (el_iiiiilii q0 q1)))), Prod.fst (Prod.snd (Prod.snd (Prod.snd (Prod.snd (el_iiiiilii q0 q1))))), Prod.snd (Prod.snd (Prod.snd (Prod.snd (Prod.snd (el_iiiiilii q0 q1))))))]))) (.bad 71)) (.bad 29)) (.ret (.inl (IntKind.wrap IntKind.i64 (q1 + (1 : Int)), q2)))) (.bad 29)) (.ret (.inr (0, (q1, q2))))
set_option maxRecDepth 100000 in
set_option maxHeartbeats 4000000 in
theorem cfe_step_eq : ∀ (u : cfe_U) (v : cfe_V), (evalC Try.prog (evalB Try.prog coA_S52 (opens []) L0 7).1 (evalB Try.prog coA_S52 (opens []) L0 7).2 (opens []) (L0 16) 100000 (0 :: [0, 1, 0, 1, 1]) (loopOf (bodyOf Try.prog 16) [1, 1, 0, 1, 0]) (cfe_St u v) []).bind (finF [1, 5, 6, 7, 8, 9, 10, 11, 12, 13, 14, 15, 16, 17, 18, 19, 20, 21, 22, 23, 24, 25, 26, 27, 28, 29] [⟨980, some 3, 0, 0, 29, (.prod (.int .i64) (.prod (.int .i64) (.prod (.int .i64) (.prod (.int .i64) (.prod (.int .i64) (.list (.prod (.int .i64) (.int .i64))))))))⟩] [980] [1024] 1003) = (cfe_step u v).bind (outA (cfe_St u) [.exit 0]) := by
  rintro q0 ⟨q1, q2⟩
  kernel_rfl
noncomputable def cfe_rd (b : Bool) (o0 : Option AV) (o2 : Option AV) (o3 : Option AV) (o4 : Option AV) (own : Own) : Option (cfe_U × cfe_V) := zrT b <| zrO o0 fun za1 => zrA1 za1 fun zc2 => zrD (.prod (.int .i64) (.prod (.int .i64) (.prod (.int .i64) (.prod (.int .i64) (.prod (.int .i64) (.list (.prod (.int .i64) (.int .i64)))))))) zc2 fun q0 => zrO o2 fun za3 => zrA1 za3 fun zc4 => zrNil zc4 <| zrO o3 fun za5 => zrA1 za5 fun zc6 => zrSl 980 0 (none) zc6 <| zrO o4 fun za7 => zrA1 za7 fun zc8 => zrI .i64 zc8 fun q1 => zrL own fun zq9 zw10 => zrKey 980 zq9 fun zk11 => zrR true 29 (.prod (.int .i64) (.prod (.int .i64) (.prod (.int .i64) (.prod (.int .i64) (.prod (.int .i64) (.list (.prod (.int .i64) (.int .i64)))))))) zk11 fun q2 => zrN zw10 <| some (q0, (q1, q2))
noncomputable def cfe_can (st : Stt) : Stt := canA [1, 5, 6, 7, 8, 9, 10, 11, 12, 13, 14, 15, 16, 17, 18, 19, 20, 21, 22, 23, 24, 25, 26, 27, 28, 29] [⟨980, some 3, 0, 0, 29, (.prod (.int .i64) (.prod (.int .i64) (.prod (.int .i64) (.prod (.int .i64) (.prod (.int .i64) (.list (.prod (.int .i64) (.int .i64))))))))⟩] [980] [1024] 1003 st
noncomputable def cfe_cok (st : Stt) : Bool := canAok [1, 5, 6, 7, 8, 9, 10, 11, 12, 13, 14, 15, 16, 17, 18, 19, 20, 21, 22, 23, 24, 25, 26, 27, 28, 29] [⟨980, some 3, 0, 0, 29, (.prod (.int .i64) (.prod (.int .i64) (.prod (.int .i64) (.prod (.int .i64) (.prod (.int .i64) (.list (.prod (.int .i64) (.int .i64))))))))⟩] [980] [1024] 1003 st
noncomputable def cfe_read (st : Stt) : Option (cfe_U × cfe_V) := cfe_rd (cfe_cok st && (staysA [⟨980, some 3, 0, 0, 29, (.prod (.int .i64) (.prod (.int .i64) (.prod (.int .i64) (.prod (.int .i64) (.prod (.int .i64) (.list (.prod (.int .i64) (.int .i64))))))))⟩] [980] st.own && juAll [1, 5, 6, 7, 8, 9, 10, 11, 12, 13, 14, 15, 16, 17, 18, 19, 20, 21, 22, 23, 24, 25, 26, 27, 28, 29] (cfe_can st).tm 30)) (cfe_can st).tm[0]? (cfe_can st).tm[2]? (cfe_can st).tm[3]? (cfe_can st).tm[4]? (cfe_can st).own
set_option maxRecDepth 100000 in
set_option maxHeartbeats 4000000 in
theorem cfe_rd_ok {b : Bool} {tm : List AV} {own : Own} {u : cfe_U} {v : cfe_V} (hj : b = true → juAll [1, 5, 6, 7, 8, 9, 10, 11, 12, 13, 14, 15, 16, 17, 18, 19, 20, 21, 22, 23, 24, 25, 26, 27, 28, 29] tm 30 = true) (h : cfe_rd b tm[0]? tm[2]? tm[3]? tm[4]? own = some (u, v)) : b = true ∧ tm = (cfe_St u v).tm ∧ own = (cfe_St u v).own := by
  unfold cfe_rd at h
  obtain ⟨rfl, h0⟩ := zrT_some h
  obtain ⟨za1, e0, h1⟩ := zrO_some h0
  obtain ⟨zc2, rfl, h2⟩ := zrA1_some h1
  obtain ⟨q0, rfl, h3⟩ := zrD_some h2
  obtain ⟨za3, e2, h4⟩ := zrO_some h3
  obtain ⟨zc4, rfl, h5⟩ := zrA1_some h4
  obtain ⟨rfl, h6⟩ := zrNil_some h5
  obtain ⟨za5, e3, h7⟩ := zrO_some h6
  obtain ⟨zc6, rfl, h8⟩ := zrA1_some h7
  obtain ⟨rfl, h9⟩ := zrSl_some h8
  obtain ⟨za7, e4, h10⟩ := zrO_some h9
  obtain ⟨zc8, rfl, h11⟩ := zrA1_some h10
  obtain ⟨q1, rfl, h12⟩ := zrI_some h11
  obtain ⟨zq9, zw10, rfl, h13⟩ := zrL_some h12
  obtain ⟨zk11, rfl, h14⟩ := zrKey_some h13
  obtain ⟨q2, rfl, h15⟩ := zrR_some h14
  obtain ⟨rfl, h16⟩ := zrN_some h15
  have h := Option.some.inj h16
  have hu := congrArg Prod.fst h
  have hv := congrArg Prod.snd h
  dsimp only at hu hv
  subst hu
  subst hv
  exact ⟨rfl, (tm_fill (hj rfl) (Lv := [(0, .one (.d false false (.prod (.int .i64) (.prod (.int .i64) (.prod (.int .i64) (.prod (.int .i64) (.prod (.int .i64) (.list (.prod (.int .i64) (.int .i64)))))))) q0)), (2, .one (.v false (Value.slice none (0 : Nat) (0 : Nat)))), (3, .one (.s false 980 0 (none))), (4, .one (.v false (.int .i64 q1)))]) (by kernel_rfl) ⟨e0, e2, e3, e4, trivial⟩).trans (by kernel_rfl), rfl⟩
theorem cfe_read_ok (st : Stt) (u : cfe_U) (v : cfe_V) (h : cfe_read st = some (u, v)) : cfe_cok st = true ∧ staysA [⟨980, some 3, 0, 0, 29, (.prod (.int .i64) (.prod (.int .i64) (.prod (.int .i64) (.prod (.int .i64) (.prod (.int .i64) (.list (.prod (.int .i64) (.int .i64))))))))⟩] [980] st.own = true ∧ cfe_can st = cfe_St u v := by
  obtain ⟨h1, h2, h3⟩ := cfe_rd_ok (fun hb => by rw [Bool.and_eq_true, Bool.and_eq_true] at hb; exact hb.2.2) h
  rw [Bool.and_eq_true, Bool.and_eq_true] at h1
  refine ⟨h1.1, h1.2.1, ?_⟩
  have e : cfe_can st = ⟨(cfe_can st).tm, (cfe_can st).own, 1003⟩ := by kernel_rfl
  rw [e, h2, h3]
  rfl
noncomputable def cfe_cond (u : cfe_U) (v : cfe_V) : Bool := runC (cfe_step u) v
noncomputable def cfe_g (u : cfe_U) (v : cfe_V) : Nat × cfe_V := runG (cfe_step u) v
theorem cfe_hg : ∀ (u : cfe_U) (v : cfe_V), cfe_cond u v = true → loopN (cfe_step u) ((fun u v => runF (cfe_step u) v) u v) v = some (cfe_g u v) := by
  exact fun u v h => run_hg h
noncomputable def cfe_m (st : Stt) : Option (Tr (Ex × Stt)) := sumM cfe_read cfe_cond cfe_St cfe_g [(0, .exit 0)] st
noncomputable def coA_L53 : FuncId → Loops := addL 16 [0, 1, 0, 1, 1] cfe_m L0
set_option maxRecDepth 100000 in
set_option maxHeartbeats 4000000 in
theorem coA_L53_ok : LoopsOK Try.prog coA_L53 :=
  loop_sumF (body := (bodyOf Try.prog 16)) (c := (loopOf (bodyOf Try.prog 16) [1, 1, 0, 1, 0])) (kinds := [.exit 0]) (allow := [(0, .exit 0)]) (St := cfe_St) (step := cfe_step) (W := [1, 5, 6, 7, 8, 9, 10, 11, 12, 13, 14, 15, 16, 17, 18, 19, 20, 21, 22, 23, 24, 25, 26, 27, 28, 29]) (As := [⟨980, some 3, 0, 0, 29, (.prod (.int .i64) (.prod (.int .i64) (.prod (.int .i64) (.prod (.int .i64) (.prod (.int .i64) (.list (.prod (.int .i64) (.int .i64))))))))⟩]) (ks := [980]) (dd := [1024]) (nx := 1003) (n := 100000) (g := cfe_g) (cond := cfe_cond) (fuel := (fun u v => runF (cfe_step u) v)) (read := cfe_read) (by kernel_rfl) (coA_S52_ok) (L0_ok _) 7 ⟨Try.f16, by kernel_rfl, by kernel_rfl⟩ (by kernel_rfl) (by kernel_rfl) (by kernel_rfl) cfe_step_eq cfe_hg cfe_read_ok
abbrev rti_U : Type := Int × (Ty.list (.prod (.int .i64) (.prod (.int .i64) (.prod (.int .i64) (.prod (.int .i64) (.prod (.int .i64) (.list (.prod (.int .i64) (.int .i64))))))))).den × Int
abbrev rti_V : Type := Int × Int
noncomputable def rti_St (u : rti_U) (v : rti_V) : Stt := ⟨[.one .junk, .one .junk, .one (.v false (.int .i64 u.1)), .one (.v false (.int .i64 v.1)), .one .junk, .one .junk, .one .junk, .one (.d false false (.prod (.int .i64) (.prod (.int .i64) (.prod (.int .i64) (.prod (.int .i64) (.prod (.int .i64) (.list (.prod (.int .i64) (.int .i64)))))))) u.2.1), .one (.v false (.int .i64 u.2.2)), .one (.v false (.int .i64 v.2)), .one .junk, .one .junk, .one .junk, .one .junk, .one .junk, .one .junk, .one .junk, .one .junk, .one .junk, .one .junk, .one .junk, .one .junk, .one .junk, .one .junk, .one .junk, .one .junk, .one .junk, .one .junk, .one .junk, .one .junk, .one .junk, .one .junk, .one .junk, .one .junk, .one .junk, .one .junk, .one .junk, .one .junk, .one .junk, .one .junk, .one .junk, .one .junk, .one .junk, .one .junk, .one .junk], [], 1005⟩
noncomputable def rti_step (u : rti_U) (v : rti_V) : Tr (rti_V ⊕ (Nat × rti_V)) :=
  match u, v with
  | (_, q2, q3), (q1, q4) => .br (decide (q4 < q3)) (.br (decide ((0 : Int) ≤ q4) && decide (q4 < (↑(List.length q2) : Int))) (.br (bif bif Prod.fst (el_iiiiilii q2 q4) == (2 : Int) then true else Prod.fst (el_iiiiilii q2 q4) == (3 : Int) then decide (Prod.fst (Prod.snd (Prod.snd (Prod.snd (Prod.snd (el_iiiiilii q2 q4))))) > (0 : Int)) else false) (.br (Prod.fst (Prod.snd (Prod.snd (Prod.snd (Prod.snd (el_iiiiilii q2 q4))))) != (0 : Int)) (.br (Prod.fst (Prod.snd (Prod.snd (Prod.snd (Prod.snd (el_iiiiilii q2 q4))))) != (0 : Int)) (.br (Int.tmod (IntKind.wrap IntKind.i64 ((↑(List.length (Prod.snd (Prod.snd (Prod.snd (Prod.snd (Prod.snd (el_iiiiilii q2 q4))))))) : Int) * (1000 : Int))) (Prod.fst (Prod.snd (Prod.snd (Prod.snd (Prod.snd (el_iiiiilii q2 q4)))))) != (0 : Int)) (.ret (.inl (IntKind.wrap IntKind.i64 (IntKind.wrap IntKind.i64 (q1 + IntKind.wrap IntKind.i64 (Int.tdiv (IntKind.wrap IntKind.i64 ((↑(List.length (Prod.snd (Prod.snd (Prod.snd (Prod.snd (Prod.snd (el_iiiiilii q2 q4))))))) : Int) * (1000 : Int))) (Prod.fst (Prod.snd (Prod.snd (Prod.snd (Prod.snd (el_iiiiilii q2 q4)))))))) + (1 : Int)), IntKind.wrap IntKind.i64 (q4 + (1 : Int))))) (.ret (.inl (IntKind.wrap IntKind.i64 (q1 + IntKind.wrap IntKind.i64 (Int.tdiv (IntKind.wrap IntKind.i64 ((↑(List.length (Prod.snd (Prod.snd (Prod.snd (Prod.snd (Prod.snd (el_iiiiilii q2 q4))))))) : Int) * (1000 : Int))) (Prod.fst (Prod.snd (Prod.snd (Prod.snd (Prod.snd (el_iiiiilii q2 q4)))))))), IntKind.wrap IntKind.i64 (q4 + (1 : Int)))))) (.bad 86)) (.bad 84)) (.ret (.inl (q1, IntKind.wrap IntKind.i64 (q4 + (1 : Int)))))) (.bad 29)) (.ret (.inr (0, (q1, q4))))
set_option maxRecDepth 100000 in
set_option maxHeartbeats 4000000 in
theorem rti_step_eq : ∀ (u : rti_U) (v : rti_V), (evalC Try.prog (evalB Try.prog coA_S52 (opens []) coA_L53 7).1 (evalB Try.prog coA_S52 (opens []) coA_L53 7).2 (opens []) (coA_L53 18) 100000 (0 :: [0, 1, 0, 1, 1]) (loopOf (bodyOf Try.prog 18) [1, 1, 0, 1, 0]) (rti_St u v) []).bind (finF [0, 1, 4, 5, 6, 10, 11, 12, 13, 14, 15, 16, 17, 18, 19, 20, 21, 22, 23, 24, 25, 26, 27, 28, 29, 30, 31, 32, 33, 34, 35, 36, 37, 38, 39, 40, 41, 42, 43, 44] [] [] [] 1005) = (rti_step u v).bind (outA (rti_St u) [.exit 0]) := by
  rintro ⟨q0, q2, q3⟩ ⟨q1, q4⟩
  kernel_rfl
noncomputable def rti_rd (b : Bool) (o2 : Option AV) (o3 : Option AV) (o7 : Option AV) (o8 : Option AV) (o9 : Option AV) (own : Own) : Option (rti_U × rti_V) := zrT b <| zrO o2 fun za1 => zrA1 za1 fun zc2 => zrI .i64 zc2 fun q0 => zrO o3 fun za3 => zrA1 za3 fun zc4 => zrI .i64 zc4 fun q1 => zrO o7 fun za5 => zrA1 za5 fun zc6 => zrD (.prod (.int .i64) (.prod (.int .i64) (.prod (.int .i64) (.prod (.int .i64) (.prod (.int .i64) (.list (.prod (.int .i64) (.int .i64)))))))) zc6 fun q2 => zrO o8 fun za7 => zrA1 za7 fun zc8 => zrI .i64 zc8 fun q3 => zrO o9 fun za9 => zrA1 za9 fun zc10 => zrI .i64 zc10 fun q4 => zrN own <| some ((q0, q2, q3), (q1, q4))
noncomputable def rti_can (st : Stt) : Stt := canA [0, 1, 4, 5, 6, 10, 11, 12, 13, 14, 15, 16, 17, 18, 19, 20, 21, 22, 23, 24, 25, 26, 27, 28, 29, 30, 31, 32, 33, 34, 35, 36, 37, 38, 39, 40, 41, 42, 43, 44] [] [] [] 1005 st
noncomputable def rti_cok (st : Stt) : Bool := canAok [0, 1, 4, 5, 6, 10, 11, 12, 13, 14, 15, 16, 17, 18, 19, 20, 21, 22, 23, 24, 25, 26, 27, 28, 29, 30, 31, 32, 33, 34, 35, 36, 37, 38, 39, 40, 41, 42, 43, 44] [] [] [] 1005 st
noncomputable def rti_read (st : Stt) : Option (rti_U × rti_V) := rti_rd (rti_cok st && (staysA [] [] st.own && juAll [0, 1, 4, 5, 6, 10, 11, 12, 13, 14, 15, 16, 17, 18, 19, 20, 21, 22, 23, 24, 25, 26, 27, 28, 29, 30, 31, 32, 33, 34, 35, 36, 37, 38, 39, 40, 41, 42, 43, 44] (rti_can st).tm 45)) (rti_can st).tm[2]? (rti_can st).tm[3]? (rti_can st).tm[7]? (rti_can st).tm[8]? (rti_can st).tm[9]? (rti_can st).own
set_option maxRecDepth 100000 in
set_option maxHeartbeats 4000000 in
theorem rti_rd_ok {b : Bool} {tm : List AV} {own : Own} {u : rti_U} {v : rti_V} (hj : b = true → juAll [0, 1, 4, 5, 6, 10, 11, 12, 13, 14, 15, 16, 17, 18, 19, 20, 21, 22, 23, 24, 25, 26, 27, 28, 29, 30, 31, 32, 33, 34, 35, 36, 37, 38, 39, 40, 41, 42, 43, 44] tm 45 = true) (h : rti_rd b tm[2]? tm[3]? tm[7]? tm[8]? tm[9]? own = some (u, v)) : b = true ∧ tm = (rti_St u v).tm ∧ own = (rti_St u v).own := by
  unfold rti_rd at h
  obtain ⟨rfl, h0⟩ := zrT_some h
  obtain ⟨za1, e2, h1⟩ := zrO_some h0
  obtain ⟨zc2, rfl, h2⟩ := zrA1_some h1
  obtain ⟨q0, rfl, h3⟩ := zrI_some h2
  obtain ⟨za3, e3, h4⟩ := zrO_some h3
  obtain ⟨zc4, rfl, h5⟩ := zrA1_some h4
  obtain ⟨q1, rfl, h6⟩ := zrI_some h5
  obtain ⟨za5, e7, h7⟩ := zrO_some h6
  obtain ⟨zc6, rfl, h8⟩ := zrA1_some h7
  obtain ⟨q2, rfl, h9⟩ := zrD_some h8
  obtain ⟨za7, e8, h10⟩ := zrO_some h9
  obtain ⟨zc8, rfl, h11⟩ := zrA1_some h10
  obtain ⟨q3, rfl, h12⟩ := zrI_some h11
  obtain ⟨za9, e9, h13⟩ := zrO_some h12
  obtain ⟨zc10, rfl, h14⟩ := zrA1_some h13
  obtain ⟨q4, rfl, h15⟩ := zrI_some h14
  obtain ⟨rfl, h16⟩ := zrN_some h15
  have h := Option.some.inj h16
  have hu := congrArg Prod.fst h
  have hv := congrArg Prod.snd h
  dsimp only at hu hv
  subst hu
  subst hv
  exact ⟨rfl, (tm_fill (hj rfl) (Lv := [(2, .one (.v false (.int .i64 q0))), (3, .one (.v false (.int .i64 q1))), (7, .one (.d false false (.prod (.int .i64) (.prod (.int .i64) (.prod (.int .i64) (.prod (.int .i64) (.prod (.int .i64) (.list (.prod (.int .i64) (.int .i64)))))))) q2)), (8, .one (.v false (.int .i64 q3))), (9, .one (.v false (.int .i64 q4)))]) (by kernel_rfl) ⟨e2, e3, e7, e8, e9, trivial⟩).trans (by kernel_rfl), rfl⟩
theorem rti_read_ok (st : Stt) (u : rti_U) (v : rti_V) (h : rti_read st = some (u, v)) : rti_cok st = true ∧ staysA [] [] st.own = true ∧ rti_can st = rti_St u v := by
  obtain ⟨h1, h2, h3⟩ := rti_rd_ok (fun hb => by rw [Bool.and_eq_true, Bool.and_eq_true] at hb; exact hb.2.2) h
  rw [Bool.and_eq_true, Bool.and_eq_true] at h1
  refine ⟨h1.1, h1.2.1, ?_⟩
  have e : rti_can st = ⟨(rti_can st).tm, (rti_can st).own, 1005⟩ := by kernel_rfl
  rw [e, h2, h3]
  rfl
noncomputable def rti_cond (u : rti_U) (v : rti_V) : Bool := runC (rti_step u) v
noncomputable def rti_g (u : rti_U) (v : rti_V) : Nat × rti_V := runG (rti_step u) v
theorem rti_hg : ∀ (u : rti_U) (v : rti_V), rti_cond u v = true → loopN (rti_step u) ((fun u v => runF (rti_step u) v) u v) v = some (rti_g u v) := by
  exact fun u v h => run_hg h
noncomputable def rti_m (st : Stt) : Option (Tr (Ex × Stt)) := sumM rti_read rti_cond rti_St rti_g [(0, .exit 0)] st
noncomputable def coA_L54 : FuncId → Loops := addL 18 [0, 1, 0, 1, 1] rti_m coA_L53
set_option maxRecDepth 100000 in
set_option maxHeartbeats 4000000 in
theorem coA_L54_ok : LoopsOK Try.prog coA_L54 :=
  loop_sumF (body := (bodyOf Try.prog 18)) (c := (loopOf (bodyOf Try.prog 18) [1, 1, 0, 1, 0])) (kinds := [.exit 0]) (allow := [(0, .exit 0)]) (St := rti_St) (step := rti_step) (W := [0, 1, 4, 5, 6, 10, 11, 12, 13, 14, 15, 16, 17, 18, 19, 20, 21, 22, 23, 24, 25, 26, 27, 28, 29, 30, 31, 32, 33, 34, 35, 36, 37, 38, 39, 40, 41, 42, 43, 44]) (As := []) (ks := []) (dd := []) (nx := 1005) (n := 100000) (g := rti_g) (cond := rti_cond) (fuel := (fun u v => runF (rti_step u) v)) (read := rti_read) (by kernel_rfl) (coA_S52_ok) (coA_L53_ok) 7 ⟨Try.f18, by kernel_rfl, by kernel_rfl⟩ (by kernel_rfl) (by kernel_rfl) (by kernel_rfl) rti_step_eq rti_hg rti_read_ok
abbrev cti_U : Type := Int × (Ty.list (.prod (.int .i64) (.prod (.int .i64) (.prod (.int .i64) (.prod (.int .i64) (.prod (.int .i64) (.list (.prod (.int .i64) (.int .i64))))))))).den × Int
abbrev cti_V : Type := Int × Int
noncomputable def cti_St (u : cti_U) (v : cti_V) : Stt := ⟨[.one .junk, .one .junk, .one (.v false (.int .i64 u.1)), .one (.v false (.int .i64 v.1)), .one .junk, .one .junk, .one .junk, .one .junk, .one (.d false false (.prod (.int .i64) (.prod (.int .i64) (.prod (.int .i64) (.prod (.int .i64) (.prod (.int .i64) (.list (.prod (.int .i64) (.int .i64)))))))) u.2.1), .one (.v false (.int .i64 u.2.2)), .one (.v false (.int .i64 v.2)), .one .junk, .one .junk, .one .junk, .one .junk, .one .junk, .one .junk, .one .junk, .one .junk, .one .junk, .one .junk, .one .junk, .one .junk, .one .junk, .one .junk, .one .junk, .one .junk, .one .junk, .one .junk, .one .junk, .one .junk, .one .junk, .one .junk, .one .junk, .one .junk, .one .junk, .one .junk, .one .junk, .one .junk, .one .junk, .one .junk, .one .junk], [], 1005⟩
noncomputable def cti_step (u : cti_U) (v : cti_V) : Tr (cti_V ⊕ (Nat × cti_V)) :=
  match u, v with
  | (_, q2, q3), (q1, q4) => .br (decide (q4 < q3)) (.br (decide ((0 : Int) ≤ q4) && decide (q4 < (↑(List.length q2) : Int))) (.br (bif bif Prod.fst (el_iiiiilii q2 q4) == (2 : Int) then true else Prod.fst (el_iiiiilii q2 q4) == (3 : Int) then decide (Prod.fst (Prod.snd (Prod.snd (Prod.snd (Prod.snd (el_iiiiilii q2 q4))))) > (0 : Int)) else false) (.br (((bif Prod.fst (Prod.snd (Prod.snd (Prod.snd (Prod.snd (el_iiiiilii q2 q4))))) == (0 : Int) then true else (bif bif IntKind.wrap IntKind.i64 ((-1000 : Int) * (↑(List.length (Prod.snd (Prod.snd (Prod.snd (Prod.snd (Prod.snd (el_iiiiilii q2 q4))))))) : Int)) == (-9223372036854775808 : Int) then Prod.fst (Prod.snd (Prod.snd (Prod.snd (Prod.snd (el_iiiiilii q2 q4))))) == (-1 : Int) else false then true else ((Prod.fst (Prod.snd (Prod.snd (Prod.snd (Prod.snd (el_iiiiilii q2 q4))))) != (0 : Int)) && (Prod.fst (Prod.snd (Prod.snd (Prod.snd (Prod.snd (el_iiiiilii q2 q4))))) != (0 : Int))))))) (.ret (.inl (IntKind.wrap IntKind.i64 (q1 - bif Prod.fst (Prod.snd (Prod.snd (Prod.snd (Prod.snd (el_iiiiilii q2 q4))))) == (0 : Int) then (0 : Int) else bif bif IntKind.wrap IntKind.i64 ((-1000 : Int) * (↑(List.length (Prod.snd (Prod.snd (Prod.snd (Prod.snd (Prod.snd (el_iiiiilii q2 q4))))))) : Int)) == (-9223372036854775808 : Int) then Prod.fst (Prod.snd (Prod.snd (Prod.snd (Prod.snd (el_iiiiilii q2 q4))))) == (-1 : Int) else false then (0 : Int) else bif bif Int.tmod (IntKind.wrap IntKind.i64 ((-1000 : Int) * (↑(List.length (Prod.snd (Prod.snd (Prod.snd (Prod.snd (Prod.snd (el_iiiiilii q2 q4))))))) : Int))) (Prod.fst (Prod.snd (Prod.snd (Prod.snd (Prod.snd (el_iiiiilii q2 q4)))))) != (0 : Int) then !decide (Int.tmod (IntKind.wrap IntKind.i64 ((-1000 : Int) * (↑(List.length (Prod.snd (Prod.snd (Prod.snd (Prod.snd (Prod.snd (el_iiiiilii q2 q4))))))) : Int))) (Prod.fst (Prod.snd (Prod.snd (Prod.snd (Prod.snd (el_iiiiilii q2 q4)))))) < (0 : Int)) == decide (Prod.fst (Prod.snd (Prod.snd (Prod.snd (Prod.snd (el_iiiiilii q2 q4))))) < (0 : Int)) else false then IntKind.wrap IntKind.i64 (IntKind.wrap IntKind.i64 (Int.tdiv (IntKind.wrap IntKind.i64 ((-1000 : Int) * (↑(List.length (Prod.snd (Prod.snd (Prod.snd (Prod.snd (Prod.snd (el_iiiiilii q2 q4))))))) : Int))) (Prod.fst (Prod.snd (Prod.snd (Prod.snd (Prod.snd (el_iiiiilii q2 q4))))))) - (1 : Int)) else IntKind.wrap IntKind.i64 (Int.tdiv (IntKind.wrap IntKind.i64 ((-1000 : Int) * (↑(List.length (Prod.snd (Prod.snd (Prod.snd (Prod.snd (Prod.snd (el_iiiiilii q2 q4))))))) : Int))) (Prod.fst (Prod.snd (Prod.snd (Prod.snd (Prod.snd (el_iiiiilii q2 q4)))))))), IntKind.wrap IntKind.i64 (q4 + (1 : Int))))) (.bad 116)) (.ret (.inl (q1, IntKind.wrap IntKind.i64 (q4 + (1 : Int)))))) (.bad 29)) (.ret (.inr (0, (q1, q4))))
set_option maxRecDepth 100000 in
set_option maxHeartbeats 4000000 in
theorem cti_step_eq : ∀ (u : cti_U) (v : cti_V), (evalC Try.prog (evalB Try.prog coA_S52 (opens []) coA_L54 7).1 (evalB Try.prog coA_S52 (opens []) coA_L54 7).2 (opens []) (coA_L54 17) 100000 (0 :: [0, 1, 0, 1, 1]) (loopOf (bodyOf Try.prog 17) [1, 1, 0, 1, 0]) (cti_St u v) []).bind (finF [0, 1, 4, 5, 6, 7, 11, 12, 13, 14, 15, 16, 17, 18, 19, 20, 21, 22, 23, 24, 25, 26, 27, 28, 29, 30, 31, 32, 33, 34, 35, 36, 37, 38, 39, 40, 41] [] [] [] 1005) = (cti_step u v).bind (outA (cti_St u) [.exit 0]) := by
  rintro ⟨q0, q2, q3⟩ ⟨q1, q4⟩
  kernel_rfl
noncomputable def cti_rd (b : Bool) (o2 : Option AV) (o3 : Option AV) (o8 : Option AV) (o9 : Option AV) (o10 : Option AV) (own : Own) : Option (cti_U × cti_V) := zrT b <| zrO o2 fun za1 => zrA1 za1 fun zc2 => zrI .i64 zc2 fun q0 => zrO o3 fun za3 => zrA1 za3 fun zc4 => zrI .i64 zc4 fun q1 => zrO o8 fun za5 => zrA1 za5 fun zc6 => zrD (.prod (.int .i64) (.prod (.int .i64) (.prod (.int .i64) (.prod (.int .i64) (.prod (.int .i64) (.list (.prod (.int .i64) (.int .i64)))))))) zc6 fun q2 => zrO o9 fun za7 => zrA1 za7 fun zc8 => zrI .i64 zc8 fun q3 => zrO o10 fun za9 => zrA1 za9 fun zc10 => zrI .i64 zc10 fun q4 => zrN own <| some ((q0, q2, q3), (q1, q4))
noncomputable def cti_can (st : Stt) : Stt := canA [0, 1, 4, 5, 6, 7, 11, 12, 13, 14, 15, 16, 17, 18, 19, 20, 21, 22, 23, 24, 25, 26, 27, 28, 29, 30, 31, 32, 33, 34, 35, 36, 37, 38, 39, 40, 41] [] [] [] 1005 st
noncomputable def cti_cok (st : Stt) : Bool := canAok [0, 1, 4, 5, 6, 7, 11, 12, 13, 14, 15, 16, 17, 18, 19, 20, 21, 22, 23, 24, 25, 26, 27, 28, 29, 30, 31, 32, 33, 34, 35, 36, 37, 38, 39, 40, 41] [] [] [] 1005 st
noncomputable def cti_read (st : Stt) : Option (cti_U × cti_V) := cti_rd (cti_cok st && (staysA [] [] st.own && juAll [0, 1, 4, 5, 6, 7, 11, 12, 13, 14, 15, 16, 17, 18, 19, 20, 21, 22, 23, 24, 25, 26, 27, 28, 29, 30, 31, 32, 33, 34, 35, 36, 37, 38, 39, 40, 41] (cti_can st).tm 42)) (cti_can st).tm[2]? (cti_can st).tm[3]? (cti_can st).tm[8]? (cti_can st).tm[9]? (cti_can st).tm[10]? (cti_can st).own
set_option maxRecDepth 100000 in
set_option maxHeartbeats 4000000 in
theorem cti_rd_ok {b : Bool} {tm : List AV} {own : Own} {u : cti_U} {v : cti_V} (hj : b = true → juAll [0, 1, 4, 5, 6, 7, 11, 12, 13, 14, 15, 16, 17, 18, 19, 20, 21, 22, 23, 24, 25, 26, 27, 28, 29, 30, 31, 32, 33, 34, 35, 36, 37, 38, 39, 40, 41] tm 42 = true) (h : cti_rd b tm[2]? tm[3]? tm[8]? tm[9]? tm[10]? own = some (u, v)) : b = true ∧ tm = (cti_St u v).tm ∧ own = (cti_St u v).own := by
  unfold cti_rd at h
  obtain ⟨rfl, h0⟩ := zrT_some h
  obtain ⟨za1, e2, h1⟩ := zrO_some h0
  obtain ⟨zc2, rfl, h2⟩ := zrA1_some h1
  obtain ⟨q0, rfl, h3⟩ := zrI_some h2
  obtain ⟨za3, e3, h4⟩ := zrO_some h3
  obtain ⟨zc4, rfl, h5⟩ := zrA1_some h4
  obtain ⟨q1, rfl, h6⟩ := zrI_some h5
  obtain ⟨za5, e8, h7⟩ := zrO_some h6
  obtain ⟨zc6, rfl, h8⟩ := zrA1_some h7
  obtain ⟨q2, rfl, h9⟩ := zrD_some h8
  obtain ⟨za7, e9, h10⟩ := zrO_some h9
  obtain ⟨zc8, rfl, h11⟩ := zrA1_some h10
  obtain ⟨q3, rfl, h12⟩ := zrI_some h11
  obtain ⟨za9, e10, h13⟩ := zrO_some h12
  obtain ⟨zc10, rfl, h14⟩ := zrA1_some h13
  obtain ⟨q4, rfl, h15⟩ := zrI_some h14
  obtain ⟨rfl, h16⟩ := zrN_some h15
  have h := Option.some.inj h16
  have hu := congrArg Prod.fst h
  have hv := congrArg Prod.snd h
  dsimp only at hu hv
  subst hu
  subst hv
  exact ⟨rfl, (tm_fill (hj rfl) (Lv := [(2, .one (.v false (.int .i64 q0))), (3, .one (.v false (.int .i64 q1))), (8, .one (.d false false (.prod (.int .i64) (.prod (.int .i64) (.prod (.int .i64) (.prod (.int .i64) (.prod (.int .i64) (.list (.prod (.int .i64) (.int .i64)))))))) q2)), (9, .one (.v false (.int .i64 q3))), (10, .one (.v false (.int .i64 q4)))]) (by kernel_rfl) ⟨e2, e3, e8, e9, e10, trivial⟩).trans (by kernel_rfl), rfl⟩
theorem cti_read_ok (st : Stt) (u : cti_U) (v : cti_V) (h : cti_read st = some (u, v)) : cti_cok st = true ∧ staysA [] [] st.own = true ∧ cti_can st = cti_St u v := by
  obtain ⟨h1, h2, h3⟩ := cti_rd_ok (fun hb => by rw [Bool.and_eq_true, Bool.and_eq_true] at hb; exact hb.2.2) h
  rw [Bool.and_eq_true, Bool.and_eq_true] at h1
  refine ⟨h1.1, h1.2.1, ?_⟩
  have e : cti_can st = ⟨(cti_can st).tm, (cti_can st).own, 1005⟩ := by kernel_rfl
  rw [e, h2, h3]
  rfl
noncomputable def cti_cond (u : cti_U) (v : cti_V) : Bool := runC (cti_step u) v
noncomputable def cti_g (u : cti_U) (v : cti_V) : Nat × cti_V := runG (cti_step u) v
theorem cti_hg : ∀ (u : cti_U) (v : cti_V), cti_cond u v = true → loopN (cti_step u) ((fun u v => runF (cti_step u) v) u v) v = some (cti_g u v) := by
  exact fun u v h => run_hg h
noncomputable def cti_m (st : Stt) : Option (Tr (Ex × Stt)) := sumM cti_read cti_cond cti_St cti_g [(0, .exit 0)] st
noncomputable def coA_L55 : FuncId → Loops := addL 17 [0, 1, 0, 1, 1] cti_m coA_L54
set_option maxRecDepth 100000 in
set_option maxHeartbeats 4000000 in
theorem coA_L55_ok : LoopsOK Try.prog coA_L55 :=
  loop_sumF (body := (bodyOf Try.prog 17)) (c := (loopOf (bodyOf Try.prog 17) [1, 1, 0, 1, 0])) (kinds := [.exit 0]) (allow := [(0, .exit 0)]) (St := cti_St) (step := cti_step) (W := [0, 1, 4, 5, 6, 7, 11, 12, 13, 14, 15, 16, 17, 18, 19, 20, 21, 22, 23, 24, 25, 26, 27, 28, 29, 30, 31, 32, 33, 34, 35, 36, 37, 38, 39, 40, 41]) (As := []) (ks := []) (dd := []) (nx := 1005) (n := 100000) (g := cti_g) (cond := cti_cond) (fuel := (fun u v => runF (cti_step u) v)) (read := cti_read) (by kernel_rfl) (coA_S52_ok) (coA_L54_ok) 7 ⟨Try.f17, by kernel_rfl, by kernel_rfl⟩ (by kernel_rfl) (by kernel_rfl) (by kernel_rfl) cti_step_eq cti_hg cti_read_ok
abbrev Opn : Type := (Int × (Int × (Int × (Int × (Int × List (Int × Int))))))
def oSp (o : Opn) : Int := o.2.2.2.2.1
def oCs (o : Opn) : List (Int × Int) := o.2.2.2.2.2
def oTm (o : Opn) : Bool := bif bif o.1 == (2 : Int) then true else o.1 == (3 : Int) then decide (oSp o > (0 : Int)) else false
def cei (a s : Int) : Int := if a % s = 0 then a / s else a / s + 1
def opT (o : Opn) : Int := bif oTm o then cei (1000 * ((oCs o).length : Int)) (oSp o) else 0
def tmL (L : List Opn) : Int := (L.map opT).sum
def oOk (o : Opn) : Bool := decide ((oCs o).length ≤ 1000)
def lOk (L : List Opn) : Bool := decide (L.length ≤ 100) && L.all oOk
def cfw (L : List Opn) : List Opn := (L.take 40).filter fun o => decide ((oCs o).length ≤ 300)
theorem el_o {L : List Opn} {i : Nat} (h : i < L.length) : el_iiiiilii L (i : Int) = L[i] := elm_lt (t := .prod (.int .i64) (.prod (.int .i64) (.prod (.int .i64) (.prod (.int .i64) (.prod (.int .i64) (.list (.prod (.int .i64) (.int .i64)))))))) h
theorem lOk_iff {L : List Opn} : lOk L = true ↔ L.length ≤ 100 ∧ ∀ i (h : i < L.length), (oCs L[i]).length ≤ 1000 := by
  unfold lOk oOk
  rw [Bool.and_eq_true, decide_eq_true_eq, List.all_eq_true]
  constructor
  · exact fun h => ⟨h.1, fun i hi => of_decide_eq_true (h.2 _ (List.getElem_mem hi))⟩
  · refine fun h => ⟨h.1, fun x hx => ?_⟩
    obtain ⟨i, hi, rfl⟩ := List.getElem_of_mem hx
    exact decide_eq_true (h.2 i hi)
theorem lOk_app {L M : List Opn} (h : lOk L = true) (g : lOk M = true) (hl : L.length + M.length ≤ 100) : lOk (L ++ M) = true := by
  unfold lOk at *
  rw [Bool.and_eq_true, decide_eq_true_eq] at *
  rw [List.all_append, h.2, g.2, List.length_append]
  exact ⟨hl, rfl⟩
theorem cfw_ok (L : List Opn) : lOk (cfw L) = true ∧ (cfw L).length ≤ 40 := by
  have h1 : (cfw L).length ≤ 40 := by
    unfold cfw
    have := List.length_filter_le (fun o : Opn => decide ((oCs o).length ≤ 300)) (L.take 40)
    rw [List.length_take] at this
    omega
  refine ⟨?_, h1⟩
  unfold lOk
  rw [Bool.and_eq_true, decide_eq_true_eq, List.all_eq_true]
  refine ⟨by omega, fun x hx => ?_⟩
  have := (List.mem_filter.1 hx).2
  have := of_decide_eq_true this
  unfold oOk
  exact decide_eq_true (by omega)
theorem cei_nn {a s : Int} (ha : 0 ≤ a) (hs : 0 < s) : 0 ≤ cei a s ∧ cei a s ≤ a + 1 := by
  unfold cei
  have h1 : 0 ≤ a / s := Int.ediv_nonneg ha (by omega)
  have h2 : a / s ≤ a := Int.ediv_le_self s ha
  split <;> omega
theorem opT_nn {o : Opn} (h : (oCs o).length ≤ 1000) : 0 ≤ opT o ∧ opT o ≤ 1000001 := by
  unfold opT
  cases ht : oTm o
  · simp
  · have hs : 0 < oSp o := by
      unfold oTm at ht
      by_cases g : oSp o > 0
      · exact g
      · rw [decide_eq_false g] at ht
        revert ht
        cases (bif o.1 == (2 : Int) then true else o.1 == (3 : Int)) <;> simp
    have := cei_nn (a := 1000 * ((oCs o).length : Int)) (by omega) hs
    show 0 ≤ cei _ _ ∧ cei _ _ ≤ _
    omega
theorem tmL_take {L : List Opn} {j : Nat} (hj : j < L.length) : tmL (L.take (j + 1)) = tmL (L.take j) + opT L[j] := by
  unfold tmL
  rw [List.take_succ_eq_append_getElem hj, List.map_append, List.sum_append]
  simp
theorem tmL_app (L M : List Opn) : tmL (L ++ M) = tmL L + tmL M := by
  unfold tmL
  rw [List.map_append, List.sum_append]
theorem tmL_bd {L : List Opn} (h : lOk L = true) : ∀ j, j ≤ L.length → 0 ≤ tmL (L.take j) ∧ tmL (L.take j) ≤ 1000001 * j
  | 0, _ => by simp [tmL]
  | j + 1, hj => by
    have ih := tmL_bd h j (by omega)
    rw [tmL_take (show j < L.length by omega)]
    have := opT_nn ((lOk_iff.1 h).2 j (by omega))
    omega
theorem fl_neg {a s : Int} (ha : 0 ≤ a) (ha2 : a ≤ 1000000) (hs : 0 < s) : (bif bif Int.tmod (0 - a) s != (0 : Int) then !decide (Int.tmod (0 - a) s < (0 : Int)) == decide (s < (0 : Int)) else false then IntKind.wrap IntKind.i64 (IntKind.wrap IntKind.i64 (Int.tdiv (0 - a) s) - (1 : Int)) else IntKind.wrap IntKind.i64 (Int.tdiv (0 - a) s)) = 0 - cei a s := by
  have e1 : Int.tdiv (0 - a) s = 0 - a / s := by rw [Int.zero_sub, Int.neg_tdiv, Int.tdiv_eq_ediv_of_nonneg ha, Int.zero_sub]
  have e2 : Int.tmod (0 - a) s = 0 - a % s := by rw [Int.zero_sub, Int.neg_tmod, Int.tmod_eq_emod_of_nonneg ha, Int.zero_sub]
  have h1 : 0 ≤ a / s := Int.ediv_nonneg ha (by omega)
  have h2 : a / s ≤ a := Int.ediv_le_self s ha
  have h3 : 0 ≤ a % s := Int.emod_nonneg _ (by omega)
  rw [e1, e2, wid (x := 0 - a / s) (by omega) (by omega), wid (x := 0 - a / s - 1) (by omega) (by omega)]
  unfold cei
  by_cases g : a % s = 0
  · rw [if_pos g, g]; rfl
  · rw [if_neg g, decide_eq_false (show ¬ s < 0 by omega), decide_eq_true (show 0 - a % s < 0 by omega)]
    have : (0 - a % s != 0) = true := by simp; omega
    rw [this]
    show 0 - a / s - 1 = _
    omega
theorem cfe_run (L : List Opn) : cfe_cond L (0, []) = true ∧ cfe_g L (0, []) = (0, (((min 40 L.length : Nat) : Int), cfw L)) := by
  have R := run_steps (step := cfe_step L) (St := fun j => ((j : Int), cfw (L.take j))) (n := min 40 L.length) (t := (0, (((min 40 L.length : Nat) : Int), cfw L))) (by
    have e : cfw (L.take (min 40 L.length)) = cfw L := by
      unfold cfw
      rw [List.take_take]
      congr 1
      rw [show min 40 (min 40 L.length) = min 40 L.length by omega]
      by_cases h : L.length ≤ 40
      · rw [Nat.min_eq_right h, List.take_of_length_le (Nat.le_refl _), List.take_of_length_le h]
      · rw [Nat.min_eq_left (by omega)]
    rw [e]
    have c : (bif decide (((min 40 L.length : Nat) : Int) < (L.length : Int)) then decide (((min 40 L.length : Nat) : Int) < (40 : Int)) else false) = false := by
      by_cases h : L.length ≤ 40
      · rw [decide_eq_false (by omega)]; rfl
      · rw [decide_eq_true (by omega), decide_eq_false (by omega)]; rfl
    simp only [cfe_step, Tr.val, c, cond_false]) (min 40 L.length) 0 (Nat.zero_add _) (fun j _ hj => by
    have hj1 : j < L.length := by omega
    have c1 : decide ((j : Int) < (40 : Int)) = true := decide_eq_true (by omega)
    have w1 : IntKind.wrap IntKind.i64 ((j : Int) + (1 : Int)) = ((j + 1 : Nat) : Int) := by rw [wid (by omega) (by omega)]; push_cast; rfl
    have hf : cfw (L.take (j + 1)) = cfw (L.take j) ++ (bif decide ((oCs L[j]).length ≤ 300) then [L[j]] else []) := by
      unfold cfw
      rw [List.take_take, List.take_take, show min 40 (j + 1) = j + 1 by omega, show min 40 j = j by omega, List.take_succ_eq_append_getElem hj1, List.filter_append]
      congr 1
    have hl : (cfw (L.take j)).length ≤ 40 := (cfw_ok _).2
    obtain ⟨r1, r2⟩ := room64 (n := (cfw (L.take j)).length + 1) (by omega)
    have d1 : decide ((((oCs L[j]).length : Nat) : Int) ≤ (300 : Int)) = decide ((oCs L[j]).length ≤ 300) := by rw [Bool.eq_iff_iff, decide_eq_true_eq, decide_eq_true_eq]; constructor <;> intro h <;> omega
    rw [hf]
    simp only [cfe_step, Tr.val, lt_t hj1, nn_t, c1, el_o hj1, w1, r1, r2, Bool.and_self, cond_true]
    have d2 : decide (((List.length L[j].2.2.2.2.2 : Nat) : Int) ≤ (300 : Int)) = decide ((oCs L[j]).length ≤ 300) := d1
    rw [d2]
    cases decide ((oCs L[j]).length ≤ 300)
    · simp
    · rfl)
  exact R
theorem cti_run {L : List Opn} (h : lOk L = true) : cti_cond (0, L, (L.length : Int)) (0, 0) = true ∧ cti_g (0, L, (L.length : Int)) (0, 0) = (0, (tmL L, (L.length : Int))) := by
  have R := run_steps (step := cti_step (0, L, (L.length : Int))) (St := fun j => (tmL (L.take j), (j : Int))) (n := L.length) (t := (0, (tmL L, (L.length : Int)))) (by
    simp only [cti_step, Tr.val, Int.lt_irrefl, decide_false, cond_false, List.take_length]) L.length 0 (Nat.zero_add _) (fun j _ hj => by
    obtain ⟨hL, hc⟩ := lOk_iff.1 h
    have hcj := hc j hj
    have b := tmL_bd h j (by omega)
    have bo := opT_nn hcj
    rw [tmL_take hj]
    simp only [cti_step, Tr.val, lt_t hj, nn_t, el_o hj, wi1 hj (show (L.length : Int) ≤ 9223372036854775806 by omega), Bool.and_self, cond_true]
    unfold opT
    have ht : (bif bif L[j].1 == (2 : Int) then true else L[j].1 == (3 : Int) then decide (L[j].2.2.2.2.1 > (0 : Int)) else false) = oTm L[j] := rfl
    rw [ht]
    cases hb : oTm L[j]
    · simp
    · have hs : 0 < oSp L[j] := by
        unfold oTm at hb
        by_cases g : oSp L[j] > 0
        · exact g
        · rw [decide_eq_false g] at hb
          revert hb
          cases (bif L[j].1 == (2 : Int) then true else L[j].1 == (3 : Int)) <;> simp
      have hs' : 0 < L[j].2.2.2.2.1 := hs
      have e0 : (L[j].2.2.2.2.1 == (0 : Int)) = false := by simp; omega
      have e1 : (L[j].2.2.2.2.1 != (0 : Int)) = true := by simp; omega
      have w0 : IntKind.wrap IntKind.i64 ((-1000 : Int) * ((List.length L[j].2.2.2.2.2 : Nat) : Int)) = 0 - 1000 * (((oCs L[j]).length : Nat) : Int) := by
        have : ((List.length L[j].2.2.2.2.2 : Nat) : Int) = (((oCs L[j]).length : Nat) : Int) := rfl
        rw [this, wid (by omega) (by omega)]; omega
      have e2 : (0 - 1000 * (((oCs L[j]).length : Nat) : Int) == (-9223372036854775808 : Int)) = false := by simp; omega
      have F := fl_neg (a := 1000 * (((oCs L[j]).length : Nat) : Int)) (s := L[j].2.2.2.2.1) (by omega) (by omega) hs'
      have bo2 : opT L[j] = cei (1000 * (((oCs L[j]).length : Nat) : Int)) (oSp L[j]) := by unfold opT; rw [hb]; rfl
      rw [bo2] at bo
      have w2 : IntKind.wrap IntKind.i64 (tmL (List.take j L) - (0 - cei (1000 * (((oCs L[j]).length : Nat) : Int)) L[j].2.2.2.2.1)) = tmL (List.take j L) + cei (1000 * (((oCs L[j]).length : Nat) : Int)) (oSp L[j]) := by
        rw [wid (by show -9223372036854775808 ≤ _ - (0 - cei _ (oSp L[j])); omega) (by show _ - (0 - cei _ (oSp L[j])) ≤ _; omega)]
        show _ - (0 - cei _ (oSp L[j])) = _
        omega
      simp only [w0, e0, e1, e2, F, w2, cond_false, cond_true, Bool.and_self])
  exact R
theorem rti_run {L : List Opn} (h : lOk L = true) : rti_cond (0, L, (L.length : Int)) (0, 0) = true ∧ rti_g (0, L, (L.length : Int)) (0, 0) = (0, (tmL L, (L.length : Int))) := by
  have R := run_steps (step := rti_step (0, L, (L.length : Int))) (St := fun j => (tmL (L.take j), (j : Int))) (n := L.length) (t := (0, (tmL L, (L.length : Int)))) (by
    simp only [rti_step, Tr.val, Int.lt_irrefl, decide_false, cond_false, List.take_length]) L.length 0 (Nat.zero_add _) (fun j _ hj => by
    obtain ⟨hL, hc⟩ := lOk_iff.1 h
    have hcj := hc j hj
    have b := tmL_bd h j (by omega)
    have bo := opT_nn hcj
    rw [tmL_take hj]
    simp only [rti_step, Tr.val, lt_t hj, nn_t, el_o hj, wi1 hj (show (L.length : Int) ≤ 9223372036854775806 by omega), Bool.and_self, cond_true]
    unfold opT
    have ht : (bif bif L[j].1 == (2 : Int) then true else L[j].1 == (3 : Int) then decide (L[j].2.2.2.2.1 > (0 : Int)) else false) = oTm L[j] := rfl
    rw [ht]
    cases hb : oTm L[j]
    · simp
    · have hs : 0 < oSp L[j] := by
        unfold oTm at hb
        by_cases g : oSp L[j] > 0
        · exact g
        · rw [decide_eq_false g] at hb
          revert hb
          cases (bif L[j].1 == (2 : Int) then true else L[j].1 == (3 : Int)) <;> simp
      have hs' : 0 < L[j].2.2.2.2.1 := hs
      have e1 : (L[j].2.2.2.2.1 != (0 : Int)) = true := by simp; omega
      have w0 : IntKind.wrap IntKind.i64 (((List.length L[j].2.2.2.2.2 : Nat) : Int) * (1000 : Int)) = 1000 * (((oCs L[j]).length : Nat) : Int) := by
        have : ((List.length L[j].2.2.2.2.2 : Nat) : Int) = (((oCs L[j]).length : Nat) : Int) := rfl
        rw [this, wid (by omega) (by omega)]; omega
      have bo2 : opT L[j] = cei (1000 * (((oCs L[j]).length : Nat) : Int)) (oSp L[j]) := by unfold opT; rw [hb]; rfl
      rw [bo2] at bo
      have td : Int.tdiv (1000 * (((oCs L[j]).length : Nat) : Int)) L[j].2.2.2.2.1 = 1000 * (((oCs L[j]).length : Nat) : Int) / oSp L[j] := Int.tdiv_eq_ediv_of_nonneg (by omega)
      have tm : Int.tmod (1000 * (((oCs L[j]).length : Nat) : Int)) L[j].2.2.2.2.1 = 1000 * (((oCs L[j]).length : Nat) : Int) % oSp L[j] := Int.tmod_eq_emod_of_nonneg (by omega)
      simp only [w0, e1, td, tm, cond_true]
      unfold cei at bo ⊢
      have q0 : 0 ≤ 1000 * (((oCs L[j]).length : Nat) : Int) / oSp L[j] := Int.ediv_nonneg (by omega) (by omega)
      have q1 : 1000 * (((oCs L[j]).length : Nat) : Int) / oSp L[j] ≤ 1000 * (((oCs L[j]).length : Nat) : Int) := Int.ediv_le_self _ (by omega)
      rw [wid (x := 1000 * (((oCs L[j]).length : Nat) : Int) / oSp L[j]) (by omega) (by omega), wid (x := tmL (List.take j L) + 1000 * (((oCs L[j]).length : Nat) : Int) / oSp L[j]) (by omega) (by omega)]
      by_cases g : 1000 * (((oCs L[j]).length : Nat) : Int) % oSp L[j] = 0
      · rw [if_pos g, g]; rfl
      · rw [if_neg g]
        have : (1000 * (((oCs L[j]).length : Nat) : Int) % oSp L[j] != 0) = true := by simpa using g
        rw [this, wid (by omega) (by omega), Int.add_assoc]; rfl)
  exact R
set_option maxRecDepth 100000 in
theorem cfc_tree (L : (Ty.list (.prod (.int .i64) (.prod (.int .i64) (.prod (.int .i64) (.prod (.int .i64) (.prod (.int .i64) (.list (.prod (.int .i64) (.int .i64))))))))).den) : evalF Try.prog coA_S52 (opens []) coA_L55 9 16 [.one (.d false false (.prod (.int .i64) (.prod (.int .i64) (.prod (.int .i64) (.prod (.int .i64) (.prod (.int .i64) (.list (.prod (.int .i64) (.int .i64)))))))) L)] = .br (((cfe_cond L ((0 : Int), [])) && (Nat.beq (Prod.fst (cfe_g L ((0 : Int), []))) (0 : Nat)))) (.ret (.one (.d false false (.prod (.int .i64) (.prod (.int .i64) (.prod (.int .i64) (.prod (.int .i64) (.prod (.int .i64) (.list (.prod (.int .i64) (.int .i64)))))))) (Prod.snd (Prod.snd (cfe_g L ((0 : Int), []))))))) (.bad 116) := by kernel_rfl
set_option maxHeartbeats 4000000 in
theorem cfc_val (L : (Ty.list (.prod (.int .i64) (.prod (.int .i64) (.prod (.int .i64) (.prod (.int .i64) (.prod (.int .i64) (.list (.prod (.int .i64) (.int .i64))))))))).den) : (.br (((cfe_cond L ((0 : Int), [])) && (Nat.beq (Prod.fst (cfe_g L ((0 : Int), []))) (0 : Nat)))) (.ret (.one (.d false false (.prod (.int .i64) (.prod (.int .i64) (.prod (.int .i64) (.prod (.int .i64) (.prod (.int .i64) (.list (.prod (.int .i64) (.int .i64)))))))) (Prod.snd (Prod.snd (cfe_g L ((0 : Int), []))))))) (.bad 116) : Tr AV).val = some (.one (.d false false (.prod (.int .i64) (.prod (.int .i64) (.prod (.int .i64) (.prod (.int .i64) (.prod (.int .i64) (.list (.prod (.int .i64) (.int .i64)))))))) (cfw L))) := by
  obtain ⟨v1, v2⟩ := cfe_run L
  show cond _ _ _ = _
  simp only [v1, v2, Nat.beq, Bool.and_self, cond_true, Tr.val]
noncomputable def cfc_g : List AV → Option (Tr AV)
  | [.one (.d _ _ (.prod (.int .i64) (.prod (.int .i64) (.prod (.int .i64) (.prod (.int .i64) (.prod (.int .i64) (.list (.prod (.int .i64) (.int .i64)))))))) L)] => some (.ret (.one (.d false false (.prod (.int .i64) (.prod (.int .i64) (.prod (.int .i64) (.prod (.int .i64) (.prod (.int .i64) (.list (.prod (.int .i64) (.int .i64)))))))) (cfw L))))
  | _ => none
set_option maxHeartbeats 4000000 in
theorem cfc_ok : FunOK Try.prog 16 cfc_g := by
  refine fun_ok (by kernel_rfl) (coA_S52_ok) (coA_L55_ok) 9 (On := (opens [])) (fun args t h => ?_)
  unfold cfc_g at h
  split at h
  · rename_i _ _ L
    simp only [Option.some.injEq] at h
    subst h
    refine ⟨[.one (.d false false (.prod (.int .i64) (.prod (.int .i64) (.prod (.int .i64) (.prod (.int .i64) (.prod (.int .i64) (.list (.prod (.int .i64) (.int .i64)))))))) L)], rfl, fun fr w us h => h, fun r hr => ?_⟩
    simp only [Tr.val, Option.some.injEq] at hr
    subst hr
    rw [cfc_tree]
    exact cfc_val L
  · cases h
noncomputable def coA_S56 : Sums := addS 16 cfc_g coA_S52
theorem coA_S56_ok : SumOK Try.prog coA_S56 := addS_ok (cfc_ok) (coA_S52_ok)
set_option maxRecDepth 100000 in
theorem ctc_tree (L : (Ty.list (.prod (.int .i64) (.prod (.int .i64) (.prod (.int .i64) (.prod (.int .i64) (.prod (.int .i64) (.list (.prod (.int .i64) (.int .i64))))))))).den) : evalF Try.prog coA_S56 (opens []) coA_L55 9 17 [.one (.d false false (.prod (.int .i64) (.prod (.int .i64) (.prod (.int .i64) (.prod (.int .i64) (.prod (.int .i64) (.list (.prod (.int .i64) (.int .i64)))))))) L)] = .br (((cti_cond ((0 : Int), L, (↑(List.length L) : Int)) ((0 : Int), (0 : Int))) && (Nat.beq (Prod.fst (cti_g ((0 : Int), L, (↑(List.length L) : Int)) ((0 : Int), (0 : Int)))) (0 : Nat)))) (.ret (.one (.v false (.int .i64 (Prod.fst (Prod.snd (cti_g ((0 : Int), L, (↑(List.length L) : Int)) ((0 : Int), (0 : Int))))))))) (.bad 116) := by kernel_rfl
theorem ctc_val (L : (Ty.list (.prod (.int .i64) (.prod (.int .i64) (.prod (.int .i64) (.prod (.int .i64) (.prod (.int .i64) (.list (.prod (.int .i64) (.int .i64))))))))).den) (hc : (lOk L) = true) : (.br (((cti_cond ((0 : Int), L, (↑(List.length L) : Int)) ((0 : Int), (0 : Int))) && (Nat.beq (Prod.fst (cti_g ((0 : Int), L, (↑(List.length L) : Int)) ((0 : Int), (0 : Int)))) (0 : Nat)))) (.ret (.one (.v false (.int .i64 (Prod.fst (Prod.snd (cti_g ((0 : Int), L, (↑(List.length L) : Int)) ((0 : Int), (0 : Int))))))))) (.bad 116) : Tr AV).val = some (.one (.v false (.int .i64 (tmL L)))) := by
  obtain ⟨v1, v2⟩ := cti_run hc
  show cond _ _ _ = _
  simp only [v1, v2, Nat.beq, Bool.and_self, cond_true, Tr.val]
noncomputable def ctc_g : List AV → Option (Tr AV)
  | [.one (.d _ _ (.prod (.int .i64) (.prod (.int .i64) (.prod (.int .i64) (.prod (.int .i64) (.prod (.int .i64) (.list (.prod (.int .i64) (.int .i64)))))))) L)] => some (.br (lOk L) (.ret (.one (.v false (.int .i64 (tmL L))))) (.bad 900))
  | _ => none
set_option maxHeartbeats 4000000 in
theorem ctc_ok : FunOK Try.prog 17 ctc_g := by
  refine fun_ok (by kernel_rfl) (coA_S56_ok) (coA_L55_ok) 9 (On := (opens [])) (fun args t h => ?_)
  unfold ctc_g at h
  split at h
  · rename_i _ _ L
    simp only [Option.some.injEq] at h
    subst h
    refine ⟨[.one (.d false false (.prod (.int .i64) (.prod (.int .i64) (.prod (.int .i64) (.prod (.int .i64) (.prod (.int .i64) (.list (.prod (.int .i64) (.int .i64)))))))) L)], rfl, fun fr w us h => h, fun r hr => ?_⟩
    obtain ⟨hc, hr⟩ := br_bad hr
    simp only [Tr.val, Option.some.injEq] at hr
    subst hr
    rw [ctc_tree]
    exact ctc_val L hc
  · cases h
noncomputable def coA_S57 : Sums := addS 17 ctc_g coA_S56
theorem coA_S57_ok : SumOK Try.prog coA_S57 := addS_ok (ctc_ok) (coA_S56_ok)
set_option maxRecDepth 100000 in
theorem rtc_tree (L : (Ty.list (.prod (.int .i64) (.prod (.int .i64) (.prod (.int .i64) (.prod (.int .i64) (.prod (.int .i64) (.list (.prod (.int .i64) (.int .i64))))))))).den) : evalF Try.prog coA_S57 (opens []) coA_L55 9 18 [.one (.d false false (.prod (.int .i64) (.prod (.int .i64) (.prod (.int .i64) (.prod (.int .i64) (.prod (.int .i64) (.list (.prod (.int .i64) (.int .i64)))))))) L)] = .br (((rti_cond ((0 : Int), L, (↑(List.length L) : Int)) ((0 : Int), (0 : Int))) && (Nat.beq (Prod.fst (rti_g ((0 : Int), L, (↑(List.length L) : Int)) ((0 : Int), (0 : Int)))) (0 : Nat)))) (.ret (.one (.v false (.int .i64 (Prod.fst (Prod.snd (rti_g ((0 : Int), L, (↑(List.length L) : Int)) ((0 : Int), (0 : Int))))))))) (.bad 116) := by kernel_rfl
theorem rtc_val (L : (Ty.list (.prod (.int .i64) (.prod (.int .i64) (.prod (.int .i64) (.prod (.int .i64) (.prod (.int .i64) (.list (.prod (.int .i64) (.int .i64))))))))).den) (hc : (lOk L) = true) : (.br (((rti_cond ((0 : Int), L, (↑(List.length L) : Int)) ((0 : Int), (0 : Int))) && (Nat.beq (Prod.fst (rti_g ((0 : Int), L, (↑(List.length L) : Int)) ((0 : Int), (0 : Int)))) (0 : Nat)))) (.ret (.one (.v false (.int .i64 (Prod.fst (Prod.snd (rti_g ((0 : Int), L, (↑(List.length L) : Int)) ((0 : Int), (0 : Int))))))))) (.bad 116) : Tr AV).val = some (.one (.v false (.int .i64 (tmL L)))) := by
  obtain ⟨v1, v2⟩ := rti_run hc
  show cond _ _ _ = _
  simp only [v1, v2, Nat.beq, Bool.and_self, cond_true, Tr.val]
noncomputable def rtc_g : List AV → Option (Tr AV)
  | [.one (.d _ _ (.prod (.int .i64) (.prod (.int .i64) (.prod (.int .i64) (.prod (.int .i64) (.prod (.int .i64) (.list (.prod (.int .i64) (.int .i64)))))))) L)] => some (.br (lOk L) (.ret (.one (.v false (.int .i64 (tmL L))))) (.bad 900))
  | _ => none
set_option maxHeartbeats 4000000 in
theorem rtc_ok : FunOK Try.prog 18 rtc_g := by
  refine fun_ok (by kernel_rfl) (coA_S57_ok) (coA_L55_ok) 9 (On := (opens [])) (fun args t h => ?_)
  unfold rtc_g at h
  split at h
  · rename_i _ _ L
    simp only [Option.some.injEq] at h
    subst h
    refine ⟨[.one (.d false false (.prod (.int .i64) (.prod (.int .i64) (.prod (.int .i64) (.prod (.int .i64) (.prod (.int .i64) (.list (.prod (.int .i64) (.int .i64)))))))) L)], rfl, fun fr w us h => h, fun r hr => ?_⟩
    obtain ⟨hc, hr⟩ := br_bad hr
    simp only [Tr.val, Option.some.injEq] at hr
    subst hr
    rw [rtc_tree]
    exact rtc_val L hc
  · cases h
noncomputable def coA_S58 : Sums := addS 18 rtc_g coA_S57
theorem coA_S58_ok : SumOK Try.prog coA_S58 := addS_ok (rtc_ok) (coA_S57_ok)
set_option maxRecDepth 100000 in
theorem law_CoolTimes_tree (L : (Ty.list (.prod (.int .i64) (.prod (.int .i64) (.prod (.int .i64) (.prod (.int .i64) (.prod (.int .i64) (.list (.prod (.int .i64) (.int .i64))))))))).den) (M : (Ty.list (.prod (.int .i64) (.prod (.int .i64) (.prod (.int .i64) (.prod (.int .i64) (.prod (.int .i64) (.list (.prod (.int .i64) (.int .i64))))))))).den) : evalF Try.prog coA_S58 (opens []) coA_L55 9 5 [.one (.d false false (.prod (.int .i64) (.prod (.int .i64) (.prod (.int .i64) (.prod (.int .i64) (.prod (.int .i64) (.list (.prod (.int .i64) (.int .i64)))))))) L), .one (.d false false (.prod (.int .i64) (.prod (.int .i64) (.prod (.int .i64) (.prod (.int .i64) (.prod (.int .i64) (.list (.prod (.int .i64) (.int .i64)))))))) M)] = .br (((decide (((0 : Nat) + List.length (cfw L)) * (64 : Nat) ≤ maxNew) && decide ((0 : Nat) + List.length (cfw L) ≤ maxLen)) && ((decide ((List.length (cfw L) + List.length (cfw M)) * (64 : Nat) ≤ maxNew) && decide (List.length (cfw L) + List.length (cfw M) ≤ maxLen)) && ((lOk (cfw L)) && ((lOk (cfw L)) && (bif tmL (cfw L) == tmL (cfw L) then ((lOk (cfw L ++ cfw M)) && ((lOk (cfw L)) && (lOk (cfw M)))) else true)))))) (.ret (.one (.v false (.bool (bif tmL (cfw L) == tmL (cfw L) then bif tmL (cfw L ++ cfw M) == IntKind.wrap IntKind.i64 (tmL (cfw L) + tmL (cfw M)) then true else false else false))))) (.bad 116) := by kernel_rfl
set_option maxHeartbeats 4000000 in
theorem law_CoolTimes_all (L : (Ty.list (.prod (.int .i64) (.prod (.int .i64) (.prod (.int .i64) (.prod (.int .i64) (.prod (.int .i64) (.list (.prod (.int .i64) (.int .i64))))))))).den) (M : (Ty.list (.prod (.int .i64) (.prod (.int .i64) (.prod (.int .i64) (.prod (.int .i64) (.prod (.int .i64) (.list (.prod (.int .i64) (.int .i64))))))))).den) (r0 : Ty.InR (.list (.prod (.int .i64) (.prod (.int .i64) (.prod (.int .i64) (.prod (.int .i64) (.prod (.int .i64) (.list (.prod (.int .i64) (.int .i64))))))))) L) (r1 : Ty.InR (.list (.prod (.int .i64) (.prod (.int .i64) (.prod (.int .i64) (.prod (.int .i64) (.prod (.int .i64) (.list (.prod (.int .i64) (.int .i64))))))))) M)  : Tr.all (fun r => ∃ kn, r = AV.one (.v kn (.bool true))) (.br (((decide (((0 : Nat) + List.length (cfw L)) * (64 : Nat) ≤ maxNew) && decide ((0 : Nat) + List.length (cfw L) ≤ maxLen)) && ((decide ((List.length (cfw L) + List.length (cfw M)) * (64 : Nat) ≤ maxNew) && decide (List.length (cfw L) + List.length (cfw M) ≤ maxLen)) && ((lOk (cfw L)) && ((lOk (cfw L)) && (bif tmL (cfw L) == tmL (cfw L) then ((lOk (cfw L ++ cfw M)) && ((lOk (cfw L)) && (lOk (cfw M)))) else true)))))) (.ret (.one (.v false (.bool (bif tmL (cfw L) == tmL (cfw L) then bif tmL (cfw L ++ cfw M) == IntKind.wrap IntKind.i64 (tmL (cfw L) + tmL (cfw M)) then true else false else false))))) (.bad 116)) := by
  obtain ⟨l1, n1⟩ := cfw_ok L
  obtain ⟨l2, n2⟩ := cfw_ok M
  have l3 := lOk_app l1 l2 (by omega)
  obtain ⟨r1, r2⟩ := room64 (n := (cfw L).length) (by omega)
  obtain ⟨r3, r4⟩ := room64 (n := (cfw L).length + (cfw M).length) (by omega)
  have b1 := tmL_bd l1 (cfw L).length (Nat.le_refl _)
  have b2 := tmL_bd l2 (cfw M).length (Nat.le_refl _)
  rw [List.take_length] at b1 b2
  have w : IntKind.wrap IntKind.i64 (tmL (cfw L) + tmL (cfw M)) = tmL (cfw L) + tmL (cfw M) := wid (by omega) (by omega)
  simp only [l1, l2, l3, r1, r2, r3, r4, Nat.zero_add, w, tmL_app, beq_self_eq_true, cond_true, Bool.and_self]
  exact ⟨fun _ => ⟨_, rfl⟩, fun h => by cases h⟩
set_option maxHeartbeats 4000000 in
theorem law_CoolTimes (v0 : Value) (x0 : ((.list (.prod (.int .i64) (.prod (.int .i64) (.prod (.int .i64) (.prod (.int .i64) (.prod (.int .i64) (.list (.prod (.int .i64) (.int .i64))))))))) : Ty).den) (r0 : Ty.InR (.list (.prod (.int .i64) (.prod (.int .i64) (.prod (.int .i64) (.prod (.int .i64) (.prod (.int .i64) (.list (.prod (.int .i64) (.int .i64))))))))) x0) (v1 : Value) (x1 : ((.list (.prod (.int .i64) (.prod (.int .i64) (.prod (.int .i64) (.prod (.int .i64) (.prod (.int .i64) (.list (.prod (.int .i64) (.int .i64))))))))) : Ty).den) (r1 : Ty.InR (.list (.prod (.int .i64) (.prod (.int .i64) (.prod (.int .i64) (.prod (.int .i64) (.prod (.int .i64) (.list (.prod (.int .i64) (.int .i64))))))))) x1) (z_w : World) (i0 : (AV.one (.d false false (.prod (.int .i64) (.prod (.int .i64) (.prod (.int .i64) (.prod (.int .i64) (.prod (.int .i64) (.list (.prod (.int .i64) (.int .i64)))))))) x0)).is [] (fun _ => none) (fun b => b < z_w.heap.size) z_w v0) (i1 : (AV.one (.d false false (.prod (.int .i64) (.prod (.int .i64) (.prod (.int .i64) (.prod (.int .i64) (.prod (.int .i64) (.list (.prod (.int .i64) (.int .i64)))))))) x1)).is [] (fun _ => none) (fun b => b < z_w.heap.size) z_w v1) : Calls Try.prog 5 #[v0, v1] z_w fun e w' => e = .returned (.bool true) ∧ Ext z_w w' := by
  obtain ⟨L, rfl⟩ : ∃ y, y = x0 := ⟨_, rfl⟩
  obtain ⟨M, rfl⟩ : ∃ y, y = x1 := ⟨_, rfl⟩
  refine law_of_tree (by kernel_rfl) (coA_S58_ok) (coA_L55_ok) (law_CoolTimes_tree L M) (law_CoolTimes_all L M r0 r1 ) rfl z_w _ _ (fun _ h => h) ⟨_, _, rfl, i0, ⟨_, _, rfl, i1, rfl⟩⟩
end Go.Proofs.Ytbmdbejoignenaa
