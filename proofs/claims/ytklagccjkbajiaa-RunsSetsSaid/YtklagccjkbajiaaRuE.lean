/-
  Layer 6: the document's normal forms and choices.
-/
import Derived.Test.YtklagccjkbajiaaProg
import Derived.Test.YtklagccjkbajiaaFvX
import Derived.Test.YtklagccjkbajiaaFvZ
import Derived.Test.YtklagccjkbajiaaAut
import Derived.Test.YtklagccjkbajiaaRd
import Derived.Test.YtklagccjkbajiaaPl
import Derived.Test.YtklagccjkbajiaaScn
import Derived.Test.YtklagccjkbajiaaRunM
import Derived.Test.YtklagccjkbajiaaRunN
import Derived.Test.YtklagccjkbajiaaRunS
import Derived.Test.YtklagccjkbajiaaRuA
import Derived.Test.YtklagccjkbajiaaRuB
import Derived.Test.YtklagccjkbajiaaRuC
import Derived.Test.YtklagccjkbajiaaRuD
namespace Go.Proofs.Ytklagccjkbajiaa
open Go
abbrev nml_U : Type := (Ty.list (.prod (.int .i64) (.int .i64))).den × (Ty.list (.int .i64)).den
abbrev nml_V : Type := Int × (Ty.list (.prod (.int .i64) (.int .i64))).den
noncomputable def nml_St (u : nml_U) (v : nml_V) : Stt := ⟨[.one (.d false false (.prod (.int .i64) (.int .i64)) u.1), .one .junk, .one (.v false (Value.slice none (0 : Nat) (0 : Nat))), .one (.d false false (.int .i64) u.2), .one (.s false 980 0 (none)), .one (.v false (.int .i64 v.1)), .one .junk, .one .junk, .one .junk, .one .junk, .one .junk, .one .junk, .one .junk, .one .junk, .one .junk, .one .junk, .one .junk, .one .junk, .one .junk, .one .junk, .one .junk, .one .junk, .one .junk, .one .junk, .one .junk, .one .junk, .one .junk, .one .junk, .one .junk, .one .junk, .one .junk, .one .junk, .one .junk], [(980, .row true false false 38 (.prod (.int .i64) (.int .i64)) v.2)], 1006⟩
noncomputable def nml_step (u : nml_U) (v : nml_V) : Tr (nml_V ⊕ (Nat × nml_V)) :=
  match u, v with
  | (q0, q1), (q2, q3) => .br (decide (IntKind.wrap IntKind.i64 (q2 + (1 : Int)) < (↑(List.length q1) : Int))) (.br (decide ((0 : Int) ≤ q2) && decide (q2 < (↑(List.length q1) : Int))) (.br (decide (List.length q0 ≤ (100000 : Nat))) (.br (memB q0 (el_i q1 q2)) (.br (decide ((0 : Int) ≤ q2) && decide (q2 < (↑(List.length q1) : Int))) (.br (decide ((0 : Int) ≤ IntKind.wrap IntKind.i64 (q2 + (1 : Int))) && decide (IntKind.wrap IntKind.i64 (q2 + (1 : Int)) < (↑(List.length q1) : Int))) (.br ((bif decide ((↑(List.length q3) : Int) > (0 : Int)) then ((decide ((0 : Int) ≤ IntKind.wrap IntKind.i64 ((↑(List.length q3) : Int) - (1 : Int))) && decide (IntKind.wrap IntKind.i64 ((↑(List.length q3) : Int) - (1 : Int)) < (↑(List.length q3) : Int))) && (decide (Int.toNat (IntKind.wrap IntKind.i64 ((↑(List.length q3) : Int) - (1 : Int))) < List.length q3))) else true)) (.br (bif decide ((↑(List.length q3) : Int) > (0 : Int)) then Prod.snd (el_ii q3 (IntKind.wrap IntKind.i64 ((↑(List.length q3) : Int) - (1 : Int)))) == el_i q1 q2 else false) (.br (decide ((0 : Int) ≤ (0 : Int)) && decide ((0 : Int) ≤ IntKind.wrap IntKind.i64 ((↑(List.length q3) : Int) - (1 : Int))) && decide (IntKind.wrap IntKind.i64 ((↑(List.length q3) : Int) - (1 : Int)) ≤ (↑(List.length q3) : Int))) (.br (decide (((0 : Nat) + List.length (cut q3 (newLo none (0 : Nat) (0 : Int)) (newHi (some (Operand.tmp (26 : Nat))) none (0 : Int) (IntKind.wrap IntKind.i64 ((↑(List.length q3) : Int) - (1 : Int)))))) * (16 : Nat) ≤ maxNew) && decide ((0 : Nat) + List.length (cut q3 (newLo none (0 : Nat) (0 : Int)) (newHi (some (Operand.tmp (26 : Nat))) none (0 : Int) (IntKind.wrap IntKind.i64 ((↑(List.length q3) : Int) - (1 : Int))))) ≤ maxLen)) (.br (decide ((0 : Int) ≤ IntKind.wrap IntKind.i64 ((↑(List.length q3) : Int) - (1 : Int))) && decide (IntKind.wrap IntKind.i64 ((↑(List.length q3) : Int) - (1 : Int)) < (↑(List.length q3) : Int))) (.br (decide (Int.toNat (IntKind.wrap IntKind.i64 ((↑(List.length q3) : Int) - (1 : Int))) < List.length q3)) (.br (decide ((List.length (cut q3 (newLo none (0 : Nat) (0 : Int)) (newHi (some (Operand.tmp (26 : Nat))) none (0 : Int) (IntKind.wrap IntKind.i64 ((↑(List.length q3) : Int) - (1 : Int))))) + (1 : Nat)) * (16 : Nat) ≤ maxNew) && decide (List.length (cut q3 (newLo none (0 : Nat) (0 : Int)) (newHi (some (Operand.tmp (26 : Nat))) none (0 : Int) (IntKind.wrap IntKind.i64 ((↑(List.length q3) : Int) - (1 : Int))))) + (1 : Nat) ≤ maxLen)) (.ret (.inl (IntKind.wrap IntKind.i64 (q2 + (1 : Int)), cut q3 (newLo none (0 : Nat) (0 : Int)) (newHi (some (Operand.tmp (26 : Nat))) none (0 : Int) (IntKind.wrap IntKind.i64 ((↑(List.length q3) : Int) - (1 : Int)))) ++ [(Prod.fst (el_ii q3 (IntKind.wrap IntKind.i64 ((↑(List.length q3) : Int) - (1 : Int)))), el_i q1 (IntKind.wrap IntKind.i64 (q2 + (1 : Int))))]))) (.bad 71)) (.bad 12)) (.bad 31)) (.bad 71)) (.bad 67)) (.br (decide ((List.length q3 + (1 : Nat)) * (16 : Nat) ≤ maxNew) && decide (List.length q3 + (1 : Nat) ≤ maxLen)) (.ret (.inl (IntKind.wrap IntKind.i64 (q2 + (1 : Int)), q3 ++ [(el_i q1 q2, el_i q1 (IntKind.wrap IntKind.i64 (q2 + (1 : Int))))]))) (.bad 71))) (.bad 117)) (.bad 29)) (.bad 29)) (.ret (.inl (IntKind.wrap IntKind.i64 (q2 + (1 : Int)), q3)))) (.bad 900)) (.bad 29)) (.ret (.inr (0, (q2, q3))))
set_option maxRecDepth 100000 in
set_option maxHeartbeats 4000000 in
theorem nml_step_eq : ∀ (u : nml_U) (v : nml_V), (evalC Try.prog (evalB Try.prog ruD_S54 (opens [48]) ruD_L53 7).1 (evalB Try.prog ruD_S54 (opens [48]) ruD_L53 7).2 (opens [48]) (ruD_L53 37) 100000 (0 :: [0, 1, 0, 1, 1, 1]) (loopOf (bodyOf Try.prog 37) [1, 1, 1, 0, 1, 0]) (nml_St u v) []).bind (finF [1, 6, 7, 8, 9, 10, 11, 12, 13, 14, 15, 16, 17, 18, 19, 20, 21, 22, 23, 24, 25, 26, 27, 28, 29, 30, 31, 32] [⟨980, some 4, 0, 0, 38, (.prod (.int .i64) (.int .i64))⟩] [980] [1028020, 1028034] 1006) = (nml_step u v).bind (outA (nml_St u) [.exit 0]) := by
  rintro ⟨q0, q1⟩ ⟨q2, q3⟩
  kernel_rfl
noncomputable def nml_rd (b : Bool) (o0 : Option AV) (o2 : Option AV) (o3 : Option AV) (o4 : Option AV) (o5 : Option AV) (own : Own) : Option (nml_U × nml_V) := zrT b <| zrO o0 fun za1 => zrA1 za1 fun zc2 => zrD (.prod (.int .i64) (.int .i64)) zc2 fun q0 => zrO o2 fun za3 => zrA1 za3 fun zc4 => zrNil zc4 <| zrO o3 fun za5 => zrA1 za5 fun zc6 => zrD (.int .i64) zc6 fun q1 => zrO o4 fun za7 => zrA1 za7 fun zc8 => zrSl 980 0 (none) zc8 <| zrO o5 fun za9 => zrA1 za9 fun zc10 => zrI .i64 zc10 fun q2 => zrL own fun zq11 zw12 => zrKey 980 zq11 fun zk13 => zrR true 38 (.prod (.int .i64) (.int .i64)) zk13 fun q3 => zrN zw12 <| some ((q0, q1), (q2, q3))
noncomputable def nml_can (st : Stt) : Stt := canA [1, 6, 7, 8, 9, 10, 11, 12, 13, 14, 15, 16, 17, 18, 19, 20, 21, 22, 23, 24, 25, 26, 27, 28, 29, 30, 31, 32] [⟨980, some 4, 0, 0, 38, (.prod (.int .i64) (.int .i64))⟩] [980] [1028020, 1028034] 1006 st
noncomputable def nml_cok (st : Stt) : Bool := canAok [1, 6, 7, 8, 9, 10, 11, 12, 13, 14, 15, 16, 17, 18, 19, 20, 21, 22, 23, 24, 25, 26, 27, 28, 29, 30, 31, 32] [⟨980, some 4, 0, 0, 38, (.prod (.int .i64) (.int .i64))⟩] [980] [1028020, 1028034] 1006 st
noncomputable def nml_read (st : Stt) : Option (nml_U × nml_V) := nml_rd (nml_cok st && (staysA [⟨980, some 4, 0, 0, 38, (.prod (.int .i64) (.int .i64))⟩] [980] st.own && juAll [1, 6, 7, 8, 9, 10, 11, 12, 13, 14, 15, 16, 17, 18, 19, 20, 21, 22, 23, 24, 25, 26, 27, 28, 29, 30, 31, 32] (nml_can st).tm 33)) (nml_can st).tm[0]? (nml_can st).tm[2]? (nml_can st).tm[3]? (nml_can st).tm[4]? (nml_can st).tm[5]? (nml_can st).own
set_option maxRecDepth 100000 in
set_option maxHeartbeats 4000000 in
theorem nml_rd_ok {b : Bool} {tm : List AV} {own : Own} {u : nml_U} {v : nml_V} (hj : b = true → juAll [1, 6, 7, 8, 9, 10, 11, 12, 13, 14, 15, 16, 17, 18, 19, 20, 21, 22, 23, 24, 25, 26, 27, 28, 29, 30, 31, 32] tm 33 = true) (h : nml_rd b tm[0]? tm[2]? tm[3]? tm[4]? tm[5]? own = some (u, v)) : b = true ∧ tm = (nml_St u v).tm ∧ own = (nml_St u v).own := by
  unfold nml_rd at h
  obtain ⟨rfl, h0⟩ := zrT_some h
  obtain ⟨za1, e0, h1⟩ := zrO_some h0
  obtain ⟨zc2, rfl, h2⟩ := zrA1_some h1
  obtain ⟨q0, rfl, h3⟩ := zrD_some h2
  obtain ⟨za3, e2, h4⟩ := zrO_some h3
  obtain ⟨zc4, rfl, h5⟩ := zrA1_some h4
  obtain ⟨rfl, h6⟩ := zrNil_some h5
  obtain ⟨za5, e3, h7⟩ := zrO_some h6
  obtain ⟨zc6, rfl, h8⟩ := zrA1_some h7
  obtain ⟨q1, rfl, h9⟩ := zrD_some h8
  obtain ⟨za7, e4, h10⟩ := zrO_some h9
  obtain ⟨zc8, rfl, h11⟩ := zrA1_some h10
  obtain ⟨rfl, h12⟩ := zrSl_some h11
  obtain ⟨za9, e5, h13⟩ := zrO_some h12
  obtain ⟨zc10, rfl, h14⟩ := zrA1_some h13
  obtain ⟨q2, rfl, h15⟩ := zrI_some h14
  obtain ⟨zq11, zw12, rfl, h16⟩ := zrL_some h15
  obtain ⟨zk13, rfl, h17⟩ := zrKey_some h16
  obtain ⟨q3, rfl, h18⟩ := zrR_some h17
  obtain ⟨rfl, h19⟩ := zrN_some h18
  have h := Option.some.inj h19
  have hu := congrArg Prod.fst h
  have hv := congrArg Prod.snd h
  dsimp only at hu hv
  subst hu
  subst hv
  exact ⟨rfl, (tm_fill (hj rfl) (Lv := [(0, .one (.d false false (.prod (.int .i64) (.int .i64)) q0)), (2, .one (.v false (Value.slice none (0 : Nat) (0 : Nat)))), (3, .one (.d false false (.int .i64) q1)), (4, .one (.s false 980 0 (none))), (5, .one (.v false (.int .i64 q2)))]) (by kernel_rfl) ⟨e0, e2, e3, e4, e5, trivial⟩).trans (by kernel_rfl), rfl⟩
theorem nml_read_ok (st : Stt) (u : nml_U) (v : nml_V) (h : nml_read st = some (u, v)) : nml_cok st = true ∧ staysA [⟨980, some 4, 0, 0, 38, (.prod (.int .i64) (.int .i64))⟩] [980] st.own = true ∧ nml_can st = nml_St u v := by
  obtain ⟨h1, h2, h3⟩ := nml_rd_ok (fun hb => by rw [Bool.and_eq_true, Bool.and_eq_true] at hb; exact hb.2.2) h
  rw [Bool.and_eq_true, Bool.and_eq_true] at h1
  refine ⟨h1.1, h1.2.1, ?_⟩
  have e : nml_can st = ⟨(nml_can st).tm, (nml_can st).own, 1006⟩ := by kernel_rfl
  rw [e, h2, h3]
  rfl
noncomputable def nml_cond (u : nml_U) (v : nml_V) : Bool := runC (nml_step u) v
noncomputable def nml_g (u : nml_U) (v : nml_V) : Nat × nml_V := runG (nml_step u) v
theorem nml_hg : ∀ (u : nml_U) (v : nml_V), nml_cond u v = true → loopN (nml_step u) ((fun u v => runF (nml_step u) v) u v) v = some (nml_g u v) := by
  exact fun u v h => run_hg h
noncomputable def nml_m (st : Stt) : Option (Tr (Ex × Stt)) := sumM nml_read nml_cond nml_St nml_g [(0, .exit 0)] st
noncomputable def ruE_L51 : FuncId → Loops := addL 37 [0, 1, 0, 1, 1, 1] nml_m ruD_L53
set_option maxRecDepth 100000 in
set_option maxHeartbeats 4000000 in
theorem ruE_L51_ok : LoopsOK Try.prog ruE_L51 :=
  loop_sumF (body := (bodyOf Try.prog 37)) (c := (loopOf (bodyOf Try.prog 37) [1, 1, 1, 0, 1, 0])) (kinds := [.exit 0]) (allow := [(0, .exit 0)]) (St := nml_St) (step := nml_step) (W := [1, 6, 7, 8, 9, 10, 11, 12, 13, 14, 15, 16, 17, 18, 19, 20, 21, 22, 23, 24, 25, 26, 27, 28, 29, 30, 31, 32]) (As := [⟨980, some 4, 0, 0, 38, (.prod (.int .i64) (.int .i64))⟩]) (ks := [980]) (dd := [1028020, 1028034]) (nx := 1006) (n := 100000) (g := nml_g) (cond := nml_cond) (fuel := (fun u v => runF (nml_step u) v)) (read := nml_read) (by kernel_rfl) (ruD_S54_ok) (ruD_L53_ok) 7 ⟨Try.f37, by kernel_rfl, by kernel_rfl⟩ (by kernel_rfl) (by kernel_rfl) (by kernel_rfl) nml_step_eq nml_hg nml_read_ok
def opE (an : Int) (p q : Bool) : Bool := bif bif bif an == (2 : Int) then bif p then true else q else false then true else bif an == (1 : Int) then bif p then q else false else false then true else bif an == (0 : Int) then bif p then !q else false else false
noncomputable def chL (A B : Rl) (an : Int) : Rl := bif valB A && valB B then nfR (fun x => opE an (memB A x) (memB B x) = true) else []
theorem cutP {acc : Rl} {n : Nat} : cut acc (newLo none (0 : Nat) (0 : Int)) (newHi (some (Operand.tmp (26 : Nat))) none (0 : Int) (n : Int)) = acc.take n := by
  simp [cut, newLo, newHi]
set_option maxHeartbeats 4000000 in
theorem nml_run {L : Rl} {bs : List Int} (hasc : asc bs) (hn : L.length ≤ 10000) (hb : bs.length ≤ 20000) : nml_cond (L, bs) (0, []) = true ∧ nml_g (L, bs) (0, []) = (0, (((bs.length - 1 : Nat) : Int), mrgR (seg (memB L) bs))) := by
  have R := run_steps (step := nml_step (L, bs)) (St := fun j => ((j : Int), upR (memB L) bs j)) (n := bs.length - 1) (t := (0, (((bs.length - 1 : Nat) : Int), mrgR (seg (memB L) bs)))) (by
    have w : decide (IntKind.wrap IntKind.i64 (((bs.length - 1 : Nat) : Int) + (1 : Int)) < (bs.length : Int)) = false := by rw [wid (by omega) (by omega)]; exact decide_eq_false (by omega)
    simp only [nml_step, Tr.val, w, cond_false, upR_last]) (bs.length - 1) 0 (Nat.zero_add _) (fun j _ hj => by
    have c1 : decide (L.length ≤ 100000) = true := decide_eq_true (by omega)
    have hu := upR_len (memB L) bs j
    have hj1 : j < bs.length := by omega
    have w1 : IntKind.wrap IntKind.i64 ((j : Int) + (1 : Int)) = ((j + 1 : Nat) : Int) := wi1 hj1 (by omega)
    have hj2 : j + 1 < bs.length := by omega
    rw [upR_succ (memB L) hasc hj2]
    generalize upR (memB L) bs j = acc at *
    skip
    cases hf : (memB L) bs[j]
    · have hf' := hf
      simp only [nml_step, Tr.val, w1, lt_t hj1, lt_t hj2, nn_t, el_n hj1, c1, hf', Bool.and_self, cond_true, cond_false]
    · have hf' := hf
      cases hc : acc.length with
      | zero =>
        have e : acc = [] := List.length_eq_zero_iff.1 hc
        subst e
        have d1 : decide (((0 : Nat) : Int) > (0 : Int)) = false := rfl
        obtain ⟨r1, r2⟩ := room16 (n := 0 + 1) (by omega)
        simp only [nml_step, Tr.val, w1, lt_t hj1, lt_t hj2, nn_t, el_n hj1, el_n hj2, c1, hf', List.length_nil, d1, r1, r2, Bool.and_self, cond_true, cond_false]
        rfl
      | succ n =>
        have hlt : n < acc.length := by omega
        have e1 : IntKind.wrap IntKind.i64 (((n + 1 : Nat) : Int) - (1 : Int)) = (n : Int) := by rw [wid (by omega) (by omega)]; omega
        have d1 : decide (((n + 1 : Nat) : Int) > (0 : Int)) = true := decide_eq_true (by omega)
        have d2 : decide ((n : Int) < ((n + 1 : Nat) : Int)) = true := decide_eq_true (by omega)
        have d3 : decide (n < n + 1) = true := decide_eq_true (by omega)
        have d4 : decide ((n : Int) ≤ ((n + 1 : Nat) : Int)) = true := decide_eq_true (by omega)
        have d5 : decide ((0 : Int) ≤ (0 : Int)) = true := rfl
        have el : lastR acc = acc[n] := by
          unfold lastR
          rw [hc, List.getD, Nat.add_sub_cancel, List.getElem?_eq_getElem hlt]; rfl
        have d6 : decide (0 < n + 1) = true := decide_eq_true (by omega)
        have tl : (acc.take n).length = n := by rw [List.length_take]; omega
        obtain ⟨r1, r2⟩ := room16 (n := n) (by omega)
        obtain ⟨r3, r4⟩ := room16 (n := n + 1) (by omega)
        obtain ⟨r5, r6⟩ := room16 (n := n + 1 + 1) (by omega)
        unfold putR
        rw [el, hc, d6]
        simp only [nml_step, Tr.val, w1, lt_t hj1, lt_t hj2, nn_t, el_n hj1, el_n hj2, c1, hf', hc, e1, d1, d2, d3, d4, d5, el_r hlt, cutP, tl, Nat.zero_add, r1, r2, r3, r4, r5, r6, Int.toNat_natCast, Bool.and_self, cond_true, Nat.add_sub_cancel]
        cases acc[n].2 == bs[j] <;> rfl)
  rw [upR_zero] at R
  exact R
theorem nml_nf (L : Rl) : mrgR (seg (memB L) (bsR L)) = nfR (memR L) := by
  rw [seg_nf (memB L) (bsR_asc L) (seg_mem (memB L) (bsR_asc L) (fun y hy x hyx hz => memB_const (fun _ h => h) hyx hz) (fun x hx => memB_low (fun _ h => h) hx) fun x hx => memB_high (fun _ h => h) hx)]
  exact nfR_congr fun x => memB_iff
set_option maxRecDepth 100000 in
theorem nmlc_tree (L : (Ty.list (.prod (.int .i64) (.int .i64))).den) : evalF Try.prog ruD_S54 (opens [48]) ruE_L51 9 37 [.one (.d false false (.prod (.int .i64) (.int .i64)) L)] = .br (((decide (List.length L ≤ (10000 : Nat))) && ((nml_cond (L, bsR L) ((0 : Int), [])) && (Nat.beq (Prod.fst (nml_g (L, bsR L) ((0 : Int), []))) (0 : Nat))))) (.ret (.one (.d false false (.prod (.int .i64) (.int .i64)) (Prod.snd (Prod.snd (nml_g (L, bsR L) ((0 : Int), []))))))) (.bad 116) := by kernel_rfl
theorem nmlc_val (L : (Ty.list (.prod (.int .i64) (.int .i64))).den) (hc : (decide (L.length ≤ 10000)) = true) : (.br (((decide (List.length L ≤ (10000 : Nat))) && ((nml_cond (L, bsR L) ((0 : Int), [])) && (Nat.beq (Prod.fst (nml_g (L, bsR L) ((0 : Int), []))) (0 : Nat))))) (.ret (.one (.d false false (.prod (.int .i64) (.int .i64)) (Prod.snd (Prod.snd (nml_g (L, bsR L) ((0 : Int), []))))))) (.bad 116) : Tr AV).val = some (.one (.d false false (.prod (.int .i64) (.int .i64)) (nfR (memR L)))) := by
  obtain ⟨K, rfl⟩ : ∃ K : Rl, K = L := ⟨L, rfl⟩
  have hn : K.length ≤ 10000 := of_decide_eq_true hc
  have hb := bsR_len K
  obtain ⟨v1, v2⟩ := nml_run (L := K) (bsR_asc K) hn (by omega)
  rw [← nml_nf]
  show cond _ _ _ = _
  simp only [hc, v1, v2, Nat.beq, Bool.and_self, cond_true, Tr.val]
noncomputable def nmlc_g : List AV → Option (Tr AV)
  | [.one (.d _ _ (.prod (.int .i64) (.int .i64)) L)] => some (.br (decide (L.length ≤ 10000)) (.ret (.one (.d false false (.prod (.int .i64) (.int .i64)) (nfR (memR L))))) (.bad 900))
  | _ => none
set_option maxHeartbeats 4000000 in
theorem nmlc_ok : FunOK Try.prog 37 nmlc_g := by
  refine fun_ok (by kernel_rfl) (ruD_S54_ok) (ruE_L51_ok) 9 (On := (opens [48])) (fun args t h => ?_)
  unfold nmlc_g at h
  split at h
  · rename_i _ _ L
    simp only [Option.some.injEq] at h
    subst h
    refine ⟨[.one (.d false false (.prod (.int .i64) (.int .i64)) L)], rfl, fun fr w us h => h, fun r hr => ?_⟩
    obtain ⟨hc, hr⟩ := br_bad hr
    simp only [Tr.val, Option.some.injEq] at hr
    subst hr
    rw [nmlc_tree]
    exact nmlc_val L hc
  · cases h
noncomputable def ruE_S52 : Sums := addS 37 nmlc_g ruD_S54
theorem ruE_S52_ok : SumOK Try.prog ruE_S52 := addS_ok (nmlc_ok) (ruD_S54_ok)
abbrev cho_U : Type := (Ty.list (.prod (.int .i64) (.int .i64))).den × (Ty.list (.prod (.int .i64) (.int .i64))).den × Int × (Ty.list (.int .i64)).den
abbrev cho_V : Type := Int × (Ty.list (.prod (.int .i64) (.int .i64))).den
noncomputable def cho_St (u : cho_U) (v : cho_V) : Stt := ⟨[.one (.d false false (.prod (.int .i64) (.int .i64)) u.1), .one (.d false false (.prod (.int .i64) (.int .i64)) u.2.1), .one (.v false (.int .i64 u.2.2.1)), .one .junk, .one .junk, .one .junk, .one (.v false (Value.slice none (0 : Nat) (0 : Nat))), .one .junk, .one (.d false false (.int .i64) u.2.2.2), .one (.s false 980 0 (none)), .one (.v false (.int .i64 v.1)), .one .junk, .one .junk, .one .junk, .one .junk, .one .junk, .one .junk, .one .junk, .one .junk, .one .junk, .one .junk, .one .junk, .one .junk, .one .junk, .one .junk, .one .junk, .one .junk, .one .junk, .one .junk, .one .junk, .one .junk, .one .junk, .one .junk, .one .junk, .one .junk, .one .junk, .one .junk, .one .junk, .one .junk, .one .junk, .one .junk, .one .junk, .one .junk, .one .junk, .one .junk, .one .junk, .one .junk, .one .junk, .one .junk, .one .junk, .one .junk, .one .junk, .one .junk, .one .junk, .one .junk, .one .junk, .one .junk, .one .junk, .one .junk, .one .junk, .one .junk, .one .junk, .one .junk, .one .junk, .one .junk, .one .junk, .one .junk, .one .junk, .one .junk, .one .junk, .one .junk, .one .junk, .one .junk, .one .junk, .one .junk, .one .junk, .one .junk, .one .junk, .one .junk, .one .junk, .one .junk, .one .junk, .one .junk, .one .junk, .one .junk, .one .junk, .one .junk, .one .junk, .one .junk], [(15, .dead), (11, .dead), (9, .dead), (980, .row true false false 38 (.prod (.int .i64) (.int .i64)) v.2)], 1022⟩
noncomputable def cho_step (u : cho_U) (v : cho_V) : Tr (cho_V ⊕ (Nat × cho_V)) :=
  match u, v with
  | (q0, q1, q2, q3), (q4, q5) => .br (decide (IntKind.wrap IntKind.i64 (q4 + (1 : Int)) < (↑(List.length q3) : Int))) (.br (decide ((0 : Int) ≤ q4) && decide (q4 < (↑(List.length q3) : Int))) (.br (decide (List.length q0 ≤ (100000 : Nat))) (.br (decide ((0 : Int) ≤ q4) && decide (q4 < (↑(List.length q3) : Int))) (.br (decide (List.length q1 ≤ (100000 : Nat))) (.br (bif bif bif q2 == (2 : Int) then bif memB q0 (el_i q3 q4) then true else memB q1 (el_i q3 q4) else false then true else bif q2 == (1 : Int) then bif memB q0 (el_i q3 q4) then memB q1 (el_i q3 q4) else false else false then true else bif q2 == (0 : Int) then bif memB q0 (el_i q3 q4) then !memB q1 (el_i q3 q4) else false else false) (.br (decide ((0 : Int) ≤ q4) && decide (q4 < (↑(List.length q3) : Int))) (.br (decide ((0 : Int) ≤ IntKind.wrap IntKind.i64 (q4 + (1 : Int))) && decide (IntKind.wrap IntKind.i64 (q4 + (1 : Int)) < (↑(List.length q3) : Int))) (.br ((bif decide ((↑(List.length q5) : Int) > (0 : Int)) then ((decide ((0 : Int) ≤ IntKind.wrap IntKind.i64 ((↑(List.length q5) : Int) - (1 : Int))) && decide (IntKind.wrap IntKind.i64 ((↑(List.length q5) : Int) - (1 : Int)) < (↑(List.length q5) : Int))) && (decide (Int.toNat (IntKind.wrap IntKind.i64 ((↑(List.length q5) : Int) - (1 : Int))) < List.length q5))) else true)) (.br (bif decide ((↑(List.length q5) : Int) > (0 : Int)) then Prod.snd (el_ii q5 (IntKind.wrap IntKind.i64 ((↑(List.length q5) : Int) - (1 : Int)))) == el_i q3 q4 else false) (.br (decide ((0 : Int) ≤ (0 : Int)) && decide ((0 : Int) ≤ IntKind.wrap IntKind.i64 ((↑(List.length q5) : Int) - (1 : Int))) && decide (IntKind.wrap IntKind.i64 ((↑(List.length q5) : Int) - (1 : Int)) ≤ (↑(List.length q5) : Int))) (.br (decide (((0 : Nat) + List.length (cut q5 (newLo none (0 : Nat) (0 : Int)) (newHi (some (Operand.tmp (26 : Nat))) none (0 : Int) (IntKind.wrap IntKind.i64 ((↑(List.length q5) : Int) - (1 : Int)))))) * (16 : Nat) ≤ maxNew) && decide ((0 : Nat) + List.length (cut q5 (newLo none (0 : Nat) (0 : Int)) (newHi (some (Operand.tmp (26 : Nat))) none (0 : Int) (IntKind.wrap IntKind.i64 ((↑(List.length q5) : Int) - (1 : Int))))) ≤ maxLen)) (.br (decide ((0 : Int) ≤ IntKind.wrap IntKind.i64 ((↑(List.length q5) : Int) - (1 : Int))) && decide (IntKind.wrap IntKind.i64 ((↑(List.length q5) : Int) - (1 : Int)) < (↑(List.length q5) : Int))) (.br (decide (Int.toNat (IntKind.wrap IntKind.i64 ((↑(List.length q5) : Int) - (1 : Int))) < List.length q5)) (.br (decide ((List.length (cut q5 (newLo none (0 : Nat) (0 : Int)) (newHi (some (Operand.tmp (26 : Nat))) none (0 : Int) (IntKind.wrap IntKind.i64 ((↑(List.length q5) : Int) - (1 : Int))))) + (1 : Nat)) * (16 : Nat) ≤ maxNew) && decide (List.length (cut q5 (newLo none (0 : Nat) (0 : Int)) (newHi (some (Operand.tmp (26 : Nat))) none (0 : Int) (IntKind.wrap IntKind.i64 ((↑(List.length q5) : Int) - (1 : Int))))) + (1 : Nat) ≤ maxLen)) (.ret (.inl (IntKind.wrap IntKind.i64 (q4 + (1 : Int)), cut q5 (newLo none (0 : Nat) (0 : Int)) (newHi (some (Operand.tmp (26 : Nat))) none (0 : Int) (IntKind.wrap IntKind.i64 ((↑(List.length q5) : Int) - (1 : Int)))) ++ [(Prod.fst (el_ii q5 (IntKind.wrap IntKind.i64 ((↑(List.length q5) : Int) - (1 : Int)))), el_i q3 (IntKind.wrap IntKind.i64 (q4 + (1 : Int))))]))) (.bad 71)) (.bad 12)) (.bad 31)) (.bad 71)) (.bad 67)) (.br (decide ((List.length q5 + (1 : Nat)) * (16 : Nat) ≤ maxNew) && decide (List.length q5 + (1 : Nat) ≤ maxLen)) (.ret (.inl (IntKind.wrap IntKind.i64 (q4 + (1 : Int)), q5 ++ [(el_i q3 q4, el_i q3 (IntKind.wrap IntKind.i64 (q4 + (1 : Int))))]))) (.bad 71))) (.bad 117)) (.bad 29)) (.bad 29)) (.ret (.inl (IntKind.wrap IntKind.i64 (q4 + (1 : Int)), q5)))) (.bad 900)) (.bad 29)) (.bad 900)) (.bad 29)) (.ret (.inr (0, (q4, q5))))
set_option maxRecDepth 100000 in
set_option maxHeartbeats 4000000 in
theorem cho_step_eq : ∀ (u : cho_U) (v : cho_V), (evalC Try.prog (evalB Try.prog ruE_S52 (opens [48]) ruE_L51 7).1 (evalB Try.prog ruE_S52 (opens [48]) ruE_L51 7).2 (opens [48]) (ruE_L51 40) 100000 (0 :: [0, 1, 0, 1, 1, 1, 1, 1, 1]) (loopOf (bodyOf Try.prog 40) [1, 1, 1, 1, 1, 1, 0, 1, 0]) (cho_St u v) []).bind (finF [3, 4, 5, 7, 11, 12, 13, 14, 15, 16, 17, 18, 19, 20, 21, 22, 23, 24, 25, 26, 27, 28, 29, 30, 31, 32, 33, 34, 35, 36, 37, 38, 39, 40, 41, 42, 43, 44, 45, 46, 47, 48, 49, 50, 51, 52, 53, 54, 55, 56, 57, 58, 59, 60, 61, 62, 63, 64, 65, 66, 67, 68, 69, 70, 71, 72, 73, 74, 75, 76, 77, 78, 79, 80, 81, 82, 83, 84, 85, 86, 87, 88] [⟨980, some 9, 0, 0, 38, (.prod (.int .i64) (.int .i64))⟩] [15, 11, 9, 980] [15, 11, 9, 1081020, 1081034] 1022) = (cho_step u v).bind (outA (cho_St u) [.exit 0]) := by
  rintro ⟨q0, q1, q2, q3⟩ ⟨q4, q5⟩
  kernel_rfl
noncomputable def cho_rd (b : Bool) (o0 : Option AV) (o1 : Option AV) (o2 : Option AV) (o6 : Option AV) (o8 : Option AV) (o9 : Option AV) (o10 : Option AV) (own : Own) : Option (cho_U × cho_V) := zrT b <| zrO o0 fun za1 => zrA1 za1 fun zc2 => zrD (.prod (.int .i64) (.int .i64)) zc2 fun q0 => zrO o1 fun za3 => zrA1 za3 fun zc4 => zrD (.prod (.int .i64) (.int .i64)) zc4 fun q1 => zrO o2 fun za5 => zrA1 za5 fun zc6 => zrI .i64 zc6 fun q2 => zrO o6 fun za7 => zrA1 za7 fun zc8 => zrNil zc8 <| zrO o8 fun za9 => zrA1 za9 fun zc10 => zrD (.int .i64) zc10 fun q3 => zrO o9 fun za11 => zrA1 za11 fun zc12 => zrSl 980 0 (none) zc12 <| zrO o10 fun za13 => zrA1 za13 fun zc14 => zrI .i64 zc14 fun q4 => zrL own fun zq15 zw16 => zrKey 15 zq15 fun zk17 => zrX zk17 <| zrL zw16 fun zq18 zw19 => zrKey 11 zq18 fun zk20 => zrX zk20 <| zrL zw19 fun zq21 zw22 => zrKey 9 zq21 fun zk23 => zrX zk23 <| zrL zw22 fun zq24 zw25 => zrKey 980 zq24 fun zk26 => zrR true 38 (.prod (.int .i64) (.int .i64)) zk26 fun q5 => zrN zw25 <| some ((q0, q1, q2, q3), (q4, q5))
noncomputable def cho_can (st : Stt) : Stt := canA [3, 4, 5, 7, 11, 12, 13, 14, 15, 16, 17, 18, 19, 20, 21, 22, 23, 24, 25, 26, 27, 28, 29, 30, 31, 32, 33, 34, 35, 36, 37, 38, 39, 40, 41, 42, 43, 44, 45, 46, 47, 48, 49, 50, 51, 52, 53, 54, 55, 56, 57, 58, 59, 60, 61, 62, 63, 64, 65, 66, 67, 68, 69, 70, 71, 72, 73, 74, 75, 76, 77, 78, 79, 80, 81, 82, 83, 84, 85, 86, 87, 88] [⟨980, some 9, 0, 0, 38, (.prod (.int .i64) (.int .i64))⟩] [15, 11, 9, 980] [15, 11, 9, 1081020, 1081034] 1022 st
noncomputable def cho_cok (st : Stt) : Bool := canAok [3, 4, 5, 7, 11, 12, 13, 14, 15, 16, 17, 18, 19, 20, 21, 22, 23, 24, 25, 26, 27, 28, 29, 30, 31, 32, 33, 34, 35, 36, 37, 38, 39, 40, 41, 42, 43, 44, 45, 46, 47, 48, 49, 50, 51, 52, 53, 54, 55, 56, 57, 58, 59, 60, 61, 62, 63, 64, 65, 66, 67, 68, 69, 70, 71, 72, 73, 74, 75, 76, 77, 78, 79, 80, 81, 82, 83, 84, 85, 86, 87, 88] [⟨980, some 9, 0, 0, 38, (.prod (.int .i64) (.int .i64))⟩] [15, 11, 9, 980] [15, 11, 9, 1081020, 1081034] 1022 st
noncomputable def cho_read (st : Stt) : Option (cho_U × cho_V) := cho_rd (cho_cok st && (staysA [⟨980, some 9, 0, 0, 38, (.prod (.int .i64) (.int .i64))⟩] [15, 11, 9, 980] st.own && juAll [3, 4, 5, 7, 11, 12, 13, 14, 15, 16, 17, 18, 19, 20, 21, 22, 23, 24, 25, 26, 27, 28, 29, 30, 31, 32, 33, 34, 35, 36, 37, 38, 39, 40, 41, 42, 43, 44, 45, 46, 47, 48, 49, 50, 51, 52, 53, 54, 55, 56, 57, 58, 59, 60, 61, 62, 63, 64, 65, 66, 67, 68, 69, 70, 71, 72, 73, 74, 75, 76, 77, 78, 79, 80, 81, 82, 83, 84, 85, 86, 87, 88] (cho_can st).tm 89)) (cho_can st).tm[0]? (cho_can st).tm[1]? (cho_can st).tm[2]? (cho_can st).tm[6]? (cho_can st).tm[8]? (cho_can st).tm[9]? (cho_can st).tm[10]? (cho_can st).own
set_option maxRecDepth 100000 in
set_option maxHeartbeats 4000000 in
theorem cho_rd_ok {b : Bool} {tm : List AV} {own : Own} {u : cho_U} {v : cho_V} (hj : b = true → juAll [3, 4, 5, 7, 11, 12, 13, 14, 15, 16, 17, 18, 19, 20, 21, 22, 23, 24, 25, 26, 27, 28, 29, 30, 31, 32, 33, 34, 35, 36, 37, 38, 39, 40, 41, 42, 43, 44, 45, 46, 47, 48, 49, 50, 51, 52, 53, 54, 55, 56, 57, 58, 59, 60, 61, 62, 63, 64, 65, 66, 67, 68, 69, 70, 71, 72, 73, 74, 75, 76, 77, 78, 79, 80, 81, 82, 83, 84, 85, 86, 87, 88] tm 89 = true) (h : cho_rd b tm[0]? tm[1]? tm[2]? tm[6]? tm[8]? tm[9]? tm[10]? own = some (u, v)) : b = true ∧ tm = (cho_St u v).tm ∧ own = (cho_St u v).own := by
  unfold cho_rd at h
  obtain ⟨rfl, h0⟩ := zrT_some h
  obtain ⟨za1, e0, h1⟩ := zrO_some h0
  obtain ⟨zc2, rfl, h2⟩ := zrA1_some h1
  obtain ⟨q0, rfl, h3⟩ := zrD_some h2
  obtain ⟨za3, e1, h4⟩ := zrO_some h3
  obtain ⟨zc4, rfl, h5⟩ := zrA1_some h4
  obtain ⟨q1, rfl, h6⟩ := zrD_some h5
  obtain ⟨za5, e2, h7⟩ := zrO_some h6
  obtain ⟨zc6, rfl, h8⟩ := zrA1_some h7
  obtain ⟨q2, rfl, h9⟩ := zrI_some h8
  obtain ⟨za7, e6, h10⟩ := zrO_some h9
  obtain ⟨zc8, rfl, h11⟩ := zrA1_some h10
  obtain ⟨rfl, h12⟩ := zrNil_some h11
  obtain ⟨za9, e8, h13⟩ := zrO_some h12
  obtain ⟨zc10, rfl, h14⟩ := zrA1_some h13
  obtain ⟨q3, rfl, h15⟩ := zrD_some h14
  obtain ⟨za11, e9, h16⟩ := zrO_some h15
  obtain ⟨zc12, rfl, h17⟩ := zrA1_some h16
  obtain ⟨rfl, h18⟩ := zrSl_some h17
  obtain ⟨za13, e10, h19⟩ := zrO_some h18
  obtain ⟨zc14, rfl, h20⟩ := zrA1_some h19
  obtain ⟨q4, rfl, h21⟩ := zrI_some h20
  obtain ⟨zq15, zw16, rfl, h22⟩ := zrL_some h21
  obtain ⟨zk17, rfl, h23⟩ := zrKey_some h22
  obtain ⟨rfl, h24⟩ := zrX_some h23
  obtain ⟨zq18, zw19, rfl, h25⟩ := zrL_some h24
  obtain ⟨zk20, rfl, h26⟩ := zrKey_some h25
  obtain ⟨rfl, h27⟩ := zrX_some h26
  obtain ⟨zq21, zw22, rfl, h28⟩ := zrL_some h27
  obtain ⟨zk23, rfl, h29⟩ := zrKey_some h28
  obtain ⟨rfl, h30⟩ := zrX_some h29
  obtain ⟨zq24, zw25, rfl, h31⟩ := zrL_some h30
  obtain ⟨zk26, rfl, h32⟩ := zrKey_some h31
  obtain ⟨q5, rfl, h33⟩ := zrR_some h32
  obtain ⟨rfl, h34⟩ := zrN_some h33
  have h := Option.some.inj h34
  have hu := congrArg Prod.fst h
  have hv := congrArg Prod.snd h
  dsimp only at hu hv
  subst hu
  subst hv
  exact ⟨rfl, (tm_fill (hj rfl) (Lv := [(0, .one (.d false false (.prod (.int .i64) (.int .i64)) q0)), (1, .one (.d false false (.prod (.int .i64) (.int .i64)) q1)), (2, .one (.v false (.int .i64 q2))), (6, .one (.v false (Value.slice none (0 : Nat) (0 : Nat)))), (8, .one (.d false false (.int .i64) q3)), (9, .one (.s false 980 0 (none))), (10, .one (.v false (.int .i64 q4)))]) (by kernel_rfl) ⟨e0, e1, e2, e6, e8, e9, e10, trivial⟩).trans (by kernel_rfl), rfl⟩
theorem cho_read_ok (st : Stt) (u : cho_U) (v : cho_V) (h : cho_read st = some (u, v)) : cho_cok st = true ∧ staysA [⟨980, some 9, 0, 0, 38, (.prod (.int .i64) (.int .i64))⟩] [15, 11, 9, 980] st.own = true ∧ cho_can st = cho_St u v := by
  obtain ⟨h1, h2, h3⟩ := cho_rd_ok (fun hb => by rw [Bool.and_eq_true, Bool.and_eq_true] at hb; exact hb.2.2) h
  rw [Bool.and_eq_true, Bool.and_eq_true] at h1
  refine ⟨h1.1, h1.2.1, ?_⟩
  have e : cho_can st = ⟨(cho_can st).tm, (cho_can st).own, 1022⟩ := by kernel_rfl
  rw [e, h2, h3]
  rfl
noncomputable def cho_cond (u : cho_U) (v : cho_V) : Bool := runC (cho_step u) v
noncomputable def cho_g (u : cho_U) (v : cho_V) : Nat × cho_V := runG (cho_step u) v
theorem cho_hg : ∀ (u : cho_U) (v : cho_V), cho_cond u v = true → loopN (cho_step u) ((fun u v => runF (cho_step u) v) u v) v = some (cho_g u v) := by
  exact fun u v h => run_hg h
noncomputable def cho_m (st : Stt) : Option (Tr (Ex × Stt)) := sumM cho_read cho_cond cho_St cho_g [(0, .exit 0)] st
noncomputable def ruE_L53 : FuncId → Loops := addL 40 [0, 1, 0, 1, 1, 1, 1, 1, 1] cho_m ruE_L51
set_option maxRecDepth 100000 in
set_option maxHeartbeats 4000000 in
theorem ruE_L53_ok : LoopsOK Try.prog ruE_L53 :=
  loop_sumF (body := (bodyOf Try.prog 40)) (c := (loopOf (bodyOf Try.prog 40) [1, 1, 1, 1, 1, 1, 0, 1, 0])) (kinds := [.exit 0]) (allow := [(0, .exit 0)]) (St := cho_St) (step := cho_step) (W := [3, 4, 5, 7, 11, 12, 13, 14, 15, 16, 17, 18, 19, 20, 21, 22, 23, 24, 25, 26, 27, 28, 29, 30, 31, 32, 33, 34, 35, 36, 37, 38, 39, 40, 41, 42, 43, 44, 45, 46, 47, 48, 49, 50, 51, 52, 53, 54, 55, 56, 57, 58, 59, 60, 61, 62, 63, 64, 65, 66, 67, 68, 69, 70, 71, 72, 73, 74, 75, 76, 77, 78, 79, 80, 81, 82, 83, 84, 85, 86, 87, 88]) (As := [⟨980, some 9, 0, 0, 38, (.prod (.int .i64) (.int .i64))⟩]) (ks := [15, 11, 9, 980]) (dd := [15, 11, 9, 1081020, 1081034]) (nx := 1022) (n := 100000) (g := cho_g) (cond := cho_cond) (fuel := (fun u v => runF (cho_step u) v)) (read := cho_read) (by kernel_rfl) (ruE_S52_ok) (ruE_L51_ok) 7 ⟨Try.f40, by kernel_rfl, by kernel_rfl⟩ (by kernel_rfl) (by kernel_rfl) (by kernel_rfl) cho_step_eq cho_hg cho_read_ok
set_option maxHeartbeats 4000000 in
theorem cho_run {A B : Rl} {an : Int} {bs : List Int} (hasc : asc bs) (ha : A.length ≤ 100000) (hbb : B.length ≤ 100000) (hb : bs.length ≤ 20000) : cho_cond (A, B, an, bs) (0, []) = true ∧ cho_g (A, B, an, bs) (0, []) = (0, (((bs.length - 1 : Nat) : Int), mrgR (seg (fun x => opE an (memB A x) (memB B x)) bs))) := by
  have R := run_steps (step := cho_step (A, B, an, bs)) (St := fun j => ((j : Int), upR (fun x => opE an (memB A x) (memB B x)) bs j)) (n := bs.length - 1) (t := (0, (((bs.length - 1 : Nat) : Int), mrgR (seg (fun x => opE an (memB A x) (memB B x)) bs)))) (by
    have w : decide (IntKind.wrap IntKind.i64 (((bs.length - 1 : Nat) : Int) + (1 : Int)) < (bs.length : Int)) = false := by rw [wid (by omega) (by omega)]; exact decide_eq_false (by omega)
    simp only [cho_step, Tr.val, w, cond_false, upR_last]) (bs.length - 1) 0 (Nat.zero_add _) (fun j _ hj => by
    have c1 : decide (A.length ≤ 100000) = true := decide_eq_true ha
    have c2 : decide (B.length ≤ 100000) = true := decide_eq_true hbb
    have hu := upR_len (fun x => opE an (memB A x) (memB B x)) bs j
    have hj1 : j < bs.length := by omega
    have w1 : IntKind.wrap IntKind.i64 ((j : Int) + (1 : Int)) = ((j + 1 : Nat) : Int) := wi1 hj1 (by omega)
    have hj2 : j + 1 < bs.length := by omega
    rw [upR_succ (fun x => opE an (memB A x) (memB B x)) hasc hj2]
    generalize upR (fun x => opE an (memB A x) (memB B x)) bs j = acc at *
    have gx : ∀ b, (opE an (memB A bs[j]) (memB B bs[j])) = b → (bif bif bif an == (2 : Int) then bif memB A bs[j] then true else memB B bs[j] else false then true else bif an == (1 : Int) then bif memB A bs[j] then memB B bs[j] else false else false then true else bif an == (0 : Int) then bif memB A bs[j] then !memB B bs[j] else false else false) = b := fun b h => h
    cases hf : (opE an (memB A bs[j]) (memB B bs[j]))
    · have hf' := gx _ hf
      simp only [cho_step, Tr.val, w1, lt_t hj1, lt_t hj2, nn_t, el_n hj1, c1, c2, hf', Bool.and_self, cond_true, cond_false]
    · have hf' := gx _ hf
      cases hc : acc.length with
      | zero =>
        have e : acc = [] := List.length_eq_zero_iff.1 hc
        subst e
        have d1 : decide (((0 : Nat) : Int) > (0 : Int)) = false := rfl
        obtain ⟨r1, r2⟩ := room16 (n := 0 + 1) (by omega)
        simp only [cho_step, Tr.val, w1, lt_t hj1, lt_t hj2, nn_t, el_n hj1, el_n hj2, c1, c2, hf', List.length_nil, d1, r1, r2, Bool.and_self, cond_true, cond_false]
        rfl
      | succ n =>
        have hlt : n < acc.length := by omega
        have e1 : IntKind.wrap IntKind.i64 (((n + 1 : Nat) : Int) - (1 : Int)) = (n : Int) := by rw [wid (by omega) (by omega)]; omega
        have d1 : decide (((n + 1 : Nat) : Int) > (0 : Int)) = true := decide_eq_true (by omega)
        have d2 : decide ((n : Int) < ((n + 1 : Nat) : Int)) = true := decide_eq_true (by omega)
        have d3 : decide (n < n + 1) = true := decide_eq_true (by omega)
        have d4 : decide ((n : Int) ≤ ((n + 1 : Nat) : Int)) = true := decide_eq_true (by omega)
        have d5 : decide ((0 : Int) ≤ (0 : Int)) = true := rfl
        have el : lastR acc = acc[n] := by
          unfold lastR
          rw [hc, List.getD, Nat.add_sub_cancel, List.getElem?_eq_getElem hlt]; rfl
        have d6 : decide (0 < n + 1) = true := decide_eq_true (by omega)
        have tl : (acc.take n).length = n := by rw [List.length_take]; omega
        obtain ⟨r1, r2⟩ := room16 (n := n) (by omega)
        obtain ⟨r3, r4⟩ := room16 (n := n + 1) (by omega)
        obtain ⟨r5, r6⟩ := room16 (n := n + 1 + 1) (by omega)
        unfold putR
        rw [el, hc, d6]
        simp only [cho_step, Tr.val, w1, lt_t hj1, lt_t hj2, nn_t, el_n hj1, el_n hj2, c1, c2, hf', hc, e1, d1, d2, d3, d4, d5, el_r hlt, cutP, tl, Nat.zero_add, r1, r2, r3, r4, r5, r6, Int.toNat_natCast, Bool.and_self, cond_true, Nat.add_sub_cancel]
        cases acc[n].2 == bs[j] <;> rfl)
  rw [upR_zero] at R
  exact R
theorem opE_ff (an : Int) : opE an false false = false := by
  unfold opE
  cases an == (2 : Int) <;> cases an == (1 : Int) <;> cases an == (0 : Int) <;> rfl
theorem cho_nf (A B : Rl) (an : Int) : mrgR (seg (fun x => opE an (memB A x) (memB B x)) (bsR (A ++ B))) = nfR (fun x => opE an (memB A x) (memB B x) = true) := by
  have sA : ∀ r ∈ A, r ∈ A ++ B := fun r h => List.mem_append_left _ h
  have sB : ∀ r ∈ B, r ∈ A ++ B := fun r h => List.mem_append_right _ h
  refine seg_nf _ (bsR_asc _) (seg_mem _ (bsR_asc _) (fun y hy x hyx hz => ?_) (fun x hx => ?_) fun x hx => ?_)
  · show opE an (memB A x) (memB B x) = opE an (memB A y) (memB B y)
    rw [memB_const sA hyx hz, memB_const sB hyx hz]
  · show opE an (memB A x) (memB B x) = false
    rw [memB_low sA hx, memB_low sB hx, opE_ff]
  · show opE an (memB A x) (memB B x) = false
    rw [memB_high sA hx, memB_high sB hx, opE_ff]
set_option maxRecDepth 100000 in
theorem choc_tree (A : (Ty.list (.prod (.int .i64) (.int .i64))).den) (B : (Ty.list (.prod (.int .i64) (.int .i64))).den) (an : Int) : evalF Try.prog ruE_S52 (opens [48]) ruE_L53 9 40 [.one (.d false false (.prod (.int .i64) (.int .i64)) A), .one (.d false false (.prod (.int .i64) (.int .i64)) B), .one (.v false (.int .i64 an))] = .br (((decide (List.length A ≤ (100000 : Nat))) && (bif !valB A then true else ((decide (List.length B ≤ (100000 : Nat))) && (bif !valB B then true else ((decide (((0 : Nat) + List.length A) * (16 : Nat) ≤ maxNew) && decide ((0 : Nat) + List.length A ≤ maxLen)) && ((decide ((List.length A + List.length B) * (16 : Nat) ≤ maxNew) && decide (List.length A + List.length B ≤ maxLen)) && ((decide (List.length (A ++ B) ≤ (10000 : Nat))) && ((cho_cond (A, B, an, bsR (A ++ B)) ((0 : Int), [])) && (Nat.beq (Prod.fst (cho_g (A, B, an, bsR (A ++ B)) ((0 : Int), []))) (0 : Nat))))))))))) (.ret (.one (.d false false (.prod (.int .i64) (.int .i64)) (bif !valB A then [] else bif !valB B then [] else Prod.snd (Prod.snd (cho_g (A, B, an, bsR (A ++ B)) ((0 : Int), []))))))) (.bad 116) := by kernel_rfl
theorem choc_val (A : (Ty.list (.prod (.int .i64) (.int .i64))).den) (B : (Ty.list (.prod (.int .i64) (.int .i64))).den) (an : Int) (hc : (decide (A.length ≤ 4000) && decide (B.length ≤ 4000)) = true) : (.br (((decide (List.length A ≤ (100000 : Nat))) && (bif !valB A then true else ((decide (List.length B ≤ (100000 : Nat))) && (bif !valB B then true else ((decide (((0 : Nat) + List.length A) * (16 : Nat) ≤ maxNew) && decide ((0 : Nat) + List.length A ≤ maxLen)) && ((decide ((List.length A + List.length B) * (16 : Nat) ≤ maxNew) && decide (List.length A + List.length B ≤ maxLen)) && ((decide (List.length (A ++ B) ≤ (10000 : Nat))) && ((cho_cond (A, B, an, bsR (A ++ B)) ((0 : Int), [])) && (Nat.beq (Prod.fst (cho_g (A, B, an, bsR (A ++ B)) ((0 : Int), []))) (0 : Nat))))))))))) (.ret (.one (.d false false (.prod (.int .i64) (.int .i64)) (bif !valB A then [] else bif !valB B then [] else Prod.snd (Prod.snd (cho_g (A, B, an, bsR (A ++ B)) ((0 : Int), []))))))) (.bad 116) : Tr AV).val = some (.one (.d false false (.prod (.int .i64) (.int .i64)) (chL A B an))) := by
  obtain ⟨K, rfl⟩ : ∃ K : Rl, K = A := ⟨A, rfl⟩
  obtain ⟨M, rfl⟩ : ∃ M : Rl, M = B := ⟨B, rfl⟩
  rw [Bool.and_eq_true] at hc
  have hn : K.length ≤ 4000 := of_decide_eq_true hc.1
  have hm : M.length ≤ 4000 := of_decide_eq_true hc.2
  have hl : (K ++ M).length = K.length + M.length := List.length_append
  have hb := bsR_len (K ++ M)
  obtain ⟨v1, v2⟩ := cho_run (A := K) (B := M) (an := an) (bsR_asc (K ++ M)) (by omega) (by omega) (by omega)
  have c1 : decide (K.length ≤ 100000) = true := decide_eq_true (by omega)
  have c2 : decide (M.length ≤ 100000) = true := decide_eq_true (by omega)
  have c3 : decide ((K ++ M).length ≤ 10000) = true := decide_eq_true (by omega)
  obtain ⟨r1, r2⟩ := room16 (n := K.length) (by omega)
  obtain ⟨r3, r4⟩ := room16 (n := K.length + M.length) (by omega)
  unfold chL
  show cond _ _ _ = _
  rw [← cho_nf]
  cases hv : valB K
  · simp only [c1, Bool.not_false, Bool.false_and, Bool.and_self, cond_true, cond_false, Tr.val]
  · cases hw : valB M
    · simp only [c1, c2, Bool.not_true, Bool.not_false, Bool.and_false, Bool.and_self, cond_true, cond_false, Tr.val]
    · simp only [c1, c2, c3, r1, r2, r3, r4, v1, v2, Nat.beq, Nat.zero_add, Bool.not_true, Bool.and_self, cond_true, cond_false, Tr.val]
noncomputable def choc_g : List AV → Option (Tr AV)
  | [.one (.d _ _ (.prod (.int .i64) (.int .i64)) A), .one (.d _ _ (.prod (.int .i64) (.int .i64)) B), .one (.v _ (.int .i64 an))] => some (.br (decide (A.length ≤ 4000) && decide (B.length ≤ 4000)) (.ret (.one (.d false false (.prod (.int .i64) (.int .i64)) (chL A B an)))) (.bad 900))
  | _ => none
set_option maxHeartbeats 4000000 in
theorem choc_ok : FunOK Try.prog 40 choc_g := by
  refine fun_ok (by kernel_rfl) (ruE_S52_ok) (ruE_L53_ok) 9 (On := (opens [48])) (fun args t h => ?_)
  unfold choc_g at h
  split at h
  · rename_i _ _ A _ _ B _ an
    simp only [Option.some.injEq] at h
    subst h
    refine ⟨[.one (.d false false (.prod (.int .i64) (.int .i64)) A), .one (.d false false (.prod (.int .i64) (.int .i64)) B), .one (.v false (.int .i64 an))], rfl, fun fr w us h => h, fun r hr => ?_⟩
    obtain ⟨hc, hr⟩ := br_bad hr
    simp only [Tr.val, Option.some.injEq] at hr
    subst hr
    rw [choc_tree]
    exact choc_val A B an hc
  · cases h
noncomputable def ruE_S54 : Sums := addS 40 choc_g ruE_S52
theorem ruE_S54_ok : SumOK Try.prog ruE_S54 := addS_ok (choc_ok) (ruE_S52_ok)
end Go.Proofs.Ytklagccjkbajiaa
