/-
  Layer 6: Norm; RunsNorms.
-/
import Derived.Test.YtklagccjkbajiaaProg
import Derived.Test.YtklagccjkbajiaaFvX
import Derived.Test.YtklagccjkbajiaaFvZ
import Derived.Test.YtklagccjkbajiaaAut
import Derived.Test.YtklagccjkbajiaaRd
import Derived.Test.YtklagccjkbajiaaPl
import Derived.Test.YtklagccjkbajiaaScn
import Derived.Test.YtklagccjkbajiaaRunM
import Derived.Test.YtklagccjkbajiaaRunN
import Derived.Test.YtklagccjkbajiaaRunS
import Derived.Test.YtklagccjkbajiaaRunT
import Derived.Test.YtklagccjkbajiaaSrt
import Derived.Test.YtklagccjkbajiaaRunH
import Derived.Test.YtklagccjkbajiaaRuA
import Derived.Test.YtklagccjkbajiaaRuB
import Derived.Test.YtklagccjkbajiaaRuC
import Derived.Test.YtklagccjkbajiaaRuD
import Derived.Test.YtklagccjkbajiaaRuE
import Derived.Test.YtklagccjkbajiaaRuF
import Derived.Test.YtklagccjkbajiaaRuG
namespace Go.Proofs.Ytklagccjkbajiaa
open Go
noncomputable def ruH_L0 : FuncId → Loops := addL 32 [7] (srtM 33 (.prod (.int .i64) (.int .i64)) cmpR) ruG_L53
theorem ruH_L0_ok : LoopsOK Try.prog ruH_L0 :=
  addO_ok (f := 32) (ruG_L53_ok) (srt_ok (P := Try.prog) (ρf := Try.sort32_ren) Try.sort32 (t := (.prod (.int .i64) (.int .i64))) rfl Try.isAgg38 Try.sizeOf38 (cf := cmpR) cmpR_swo (g := 33) (enters_of Try.func33 (by kernel_rfl) rfl) (fun _ _ _ _ _ _ _ _ x y => cmpR_calls x y _))
abbrev cno_U : Type := (Ty.list (.prod (.int .i64) (.int .i64))).den × Int
abbrev cno_V : Type := Int × Int × (Ty.list (.prod (.int .i64) (.int .i64))).den
noncomputable def cno_St (u : cno_U) (v : cno_V) : Stt := ⟨[.one .junk, .one .junk, .one (.v false (Value.slice none (0 : Nat) (0 : Nat))), .one (.v false (.int .i64 v.1)), .one (.s false 980 0 (none)), .one .junk, .one .junk, .one (.d false false (.prod (.int .i64) (.int .i64)) u.1), .one (.v false (.int .i64 u.2)), .one (.v false (.int .i64 v.2.1)), .one .junk, .one .junk, .one .junk, .one .junk, .one .junk, .one .junk, .one .junk, .one .junk, .one .junk, .one .junk, .one .junk, .one .junk, .one .junk, .one .junk, .one .junk, .one .junk, .one .junk, .one .junk, .one .junk, .one .junk], [(980, .row true false false 38 (.prod (.int .i64) (.int .i64)) v.2.2)], 1006⟩
noncomputable def cno_step (u : cno_U) (v : cno_V) : Tr (cno_V ⊕ (Nat × cno_V)) :=
  match u, v with
  | (q1, q2), (q0, q3, q4) => .br (decide (q3 < q2)) (.br (decide ((0 : Int) ≤ q3) && decide (q3 < (↑(List.length q1) : Int))) (.br (decide (Prod.fst (el_ii q1 q3) ≥ Prod.snd (el_ii q1 q3))) (.ret (.inl (q0, IntKind.wrap IntKind.i64 (q3 + (1 : Int)), q4))) (.br (!bif decide (Prod.fst (el_ii q1 q3) ≥ (-1048576 : Int)) then decide (Prod.snd (el_ii q1 q3) ≤ (1048576 : Int)) else false) (.ret (.inr (0, (8, q3, q4)))) (.br (decide ((List.length q4 + (1 : Nat)) * (16 : Nat) ≤ maxNew) && decide (List.length q4 + (1 : Nat) ≤ maxLen)) (.ret (.inl (q0, IntKind.wrap IntKind.i64 (q3 + (1 : Int)), q4 ++ [(Prod.fst (el_ii q1 q3), Prod.snd (el_ii q1 q3))]))) (.bad 71)))) (.bad 29)) (.ret (.inr (1, (q0, q3, q4))))
set_option maxRecDepth 100000 in
set_option maxHeartbeats 4000000 in
theorem cno_step_eq : ∀ (u : cno_U) (v : cno_V), (evalC Try.prog (evalB Try.prog ruG_S55 (opens [32]) ruH_L0 7).1 (evalB Try.prog ruG_S55 (opens [32]) ruH_L0 7).2 (opens [32]) (ruH_L0 9) 100000 (0 :: [0, 1, 0, 1, 1]) (loopOf (bodyOf Try.prog 9) [1, 1, 0, 1, 0]) (cno_St u v) []).bind (finF [0, 1, 5, 6, 10, 11, 12, 13, 14, 15, 16, 17, 18, 19, 20, 21, 22, 23, 24, 25, 26, 27, 28, 29] [⟨980, some 4, 0, 0, 38, (.prod (.int .i64) (.int .i64))⟩] [980] [1022] 1006) = (cno_step u v).bind (outA (cno_St u) [.ret, .exit 0]) := by
  rintro ⟨q1, q2⟩ ⟨q0, q3, q4⟩
  kernel_rfl
noncomputable def cno_rd (b : Bool) (o2 : Option AV) (o3 : Option AV) (o4 : Option AV) (o7 : Option AV) (o8 : Option AV) (o9 : Option AV) (own : Own) : Option (cno_U × cno_V) := zrT b <| zrO o2 fun za1 => zrA1 za1 fun zc2 => zrNil zc2 <| zrO o3 fun za3 => zrA1 za3 fun zc4 => zrI .i64 zc4 fun q0 => zrO o4 fun za5 => zrA1 za5 fun zc6 => zrSl 980 0 (none) zc6 <| zrO o7 fun za7 => zrA1 za7 fun zc8 => zrD (.prod (.int .i64) (.int .i64)) zc8 fun q1 => zrO o8 fun za9 => zrA1 za9 fun zc10 => zrI .i64 zc10 fun q2 => zrO o9 fun za11 => zrA1 za11 fun zc12 => zrI .i64 zc12 fun q3 => zrL own fun zq13 zw14 => zrKey 980 zq13 fun zk15 => zrR true 38 (.prod (.int .i64) (.int .i64)) zk15 fun q4 => zrN zw14 <| some ((q1, q2), (q0, q3, q4))
noncomputable def cno_can (st : Stt) : Stt := canA [0, 1, 5, 6, 10, 11, 12, 13, 14, 15, 16, 17, 18, 19, 20, 21, 22, 23, 24, 25, 26, 27, 28, 29] [⟨980, some 4, 0, 0, 38, (.prod (.int .i64) (.int .i64))⟩] [980] [1022] 1006 st
noncomputable def cno_cok (st : Stt) : Bool := canAok [0, 1, 5, 6, 10, 11, 12, 13, 14, 15, 16, 17, 18, 19, 20, 21, 22, 23, 24, 25, 26, 27, 28, 29] [⟨980, some 4, 0, 0, 38, (.prod (.int .i64) (.int .i64))⟩] [980] [1022] 1006 st
noncomputable def cno_read (st : Stt) : Option (cno_U × cno_V) := cno_rd (cno_cok st && (staysA [⟨980, some 4, 0, 0, 38, (.prod (.int .i64) (.int .i64))⟩] [980] st.own && juAll [0, 1, 5, 6, 10, 11, 12, 13, 14, 15, 16, 17, 18, 19, 20, 21, 22, 23, 24, 25, 26, 27, 28, 29] (cno_can st).tm 30)) (cno_can st).tm[2]? (cno_can st).tm[3]? (cno_can st).tm[4]? (cno_can st).tm[7]? (cno_can st).tm[8]? (cno_can st).tm[9]? (cno_can st).own
set_option maxRecDepth 100000 in
set_option maxHeartbeats 4000000 in
theorem cno_rd_ok {b : Bool} {tm : List AV} {own : Own} {u : cno_U} {v : cno_V} (hj : b = true → juAll [0, 1, 5, 6, 10, 11, 12, 13, 14, 15, 16, 17, 18, 19, 20, 21, 22, 23, 24, 25, 26, 27, 28, 29] tm 30 = true) (h : cno_rd b tm[2]? tm[3]? tm[4]? tm[7]? tm[8]? tm[9]? own = some (u, v)) : b = true ∧ tm = (cno_St u v).tm ∧ own = (cno_St u v).own := by
  unfold cno_rd at h
  obtain ⟨rfl, h0⟩ := zrT_some h
  obtain ⟨za1, e2, h1⟩ := zrO_some h0
  obtain ⟨zc2, rfl, h2⟩ := zrA1_some h1
  obtain ⟨rfl, h3⟩ := zrNil_some h2
  obtain ⟨za3, e3, h4⟩ := zrO_some h3
  obtain ⟨zc4, rfl, h5⟩ := zrA1_some h4
  obtain ⟨q0, rfl, h6⟩ := zrI_some h5
  obtain ⟨za5, e4, h7⟩ := zrO_some h6
  obtain ⟨zc6, rfl, h8⟩ := zrA1_some h7
  obtain ⟨rfl, h9⟩ := zrSl_some h8
  obtain ⟨za7, e7, h10⟩ := zrO_some h9
  obtain ⟨zc8, rfl, h11⟩ := zrA1_some h10
  obtain ⟨q1, rfl, h12⟩ := zrD_some h11
  obtain ⟨za9, e8, h13⟩ := zrO_some h12
  obtain ⟨zc10, rfl, h14⟩ := zrA1_some h13
  obtain ⟨q2, rfl, h15⟩ := zrI_some h14
  obtain ⟨za11, e9, h16⟩ := zrO_some h15
  obtain ⟨zc12, rfl, h17⟩ := zrA1_some h16
  obtain ⟨q3, rfl, h18⟩ := zrI_some h17
  obtain ⟨zq13, zw14, rfl, h19⟩ := zrL_some h18
  obtain ⟨zk15, rfl, h20⟩ := zrKey_some h19
  obtain ⟨q4, rfl, h21⟩ := zrR_some h20
  obtain ⟨rfl, h22⟩ := zrN_some h21
  have h := Option.some.inj h22
  have hu := congrArg Prod.fst h
  have hv := congrArg Prod.snd h
  dsimp only at hu hv
  subst hu
  subst hv
  exact ⟨rfl, (tm_fill (hj rfl) (Lv := [(2, .one (.v false (Value.slice none (0 : Nat) (0 : Nat)))), (3, .one (.v false (.int .i64 q0))), (4, .one (.s false 980 0 (none))), (7, .one (.d false false (.prod (.int .i64) (.int .i64)) q1)), (8, .one (.v false (.int .i64 q2))), (9, .one (.v false (.int .i64 q3)))]) (by kernel_rfl) ⟨e2, e3, e4, e7, e8, e9, trivial⟩).trans (by kernel_rfl), rfl⟩
theorem cno_read_ok (st : Stt) (u : cno_U) (v : cno_V) (h : cno_read st = some (u, v)) : cno_cok st = true ∧ staysA [⟨980, some 4, 0, 0, 38, (.prod (.int .i64) (.int .i64))⟩] [980] st.own = true ∧ cno_can st = cno_St u v := by
  obtain ⟨h1, h2, h3⟩ := cno_rd_ok (fun hb => by rw [Bool.and_eq_true, Bool.and_eq_true] at hb; exact hb.2.2) h
  rw [Bool.and_eq_true, Bool.and_eq_true] at h1
  refine ⟨h1.1, h1.2.1, ?_⟩
  have e : cno_can st = ⟨(cno_can st).tm, (cno_can st).own, 1006⟩ := by kernel_rfl
  rw [e, h2, h3]
  rfl
noncomputable def cno_cond (u : cno_U) (v : cno_V) : Bool := runC (cno_step u) v
noncomputable def cno_g (u : cno_U) (v : cno_V) : Nat × cno_V := runG (cno_step u) v
theorem cno_hg : ∀ (u : cno_U) (v : cno_V), cno_cond u v = true → loopN (cno_step u) ((fun u v => runF (cno_step u) v) u v) v = some (cno_g u v) := by
  exact fun u v h => run_hg h
noncomputable def cno_m (st : Stt) : Option (Tr (Ex × Stt)) := sumM cno_read cno_cond cno_St cno_g [(0, .ret), (1, .exit 0)] st
noncomputable def ruH_L51 : FuncId → Loops := addL 9 [0, 1, 0, 1, 1] cno_m ruH_L0
set_option maxRecDepth 100000 in
set_option maxHeartbeats 4000000 in
theorem ruH_L51_ok : LoopsOK Try.prog ruH_L51 :=
  loop_sumF (body := (bodyOf Try.prog 9)) (c := (loopOf (bodyOf Try.prog 9) [1, 1, 0, 1, 0])) (kinds := [.ret, .exit 0]) (allow := [(0, .ret), (1, .exit 0)]) (St := cno_St) (step := cno_step) (W := [0, 1, 5, 6, 10, 11, 12, 13, 14, 15, 16, 17, 18, 19, 20, 21, 22, 23, 24, 25, 26, 27, 28, 29]) (As := [⟨980, some 4, 0, 0, 38, (.prod (.int .i64) (.int .i64))⟩]) (ks := [980]) (dd := [1022]) (nx := 1006) (n := 100000) (g := cno_g) (cond := cno_cond) (fuel := (fun u v => runF (cno_step u) v)) (read := cno_read) (by kernel_rfl) (ruG_S55_ok) (ruH_L0_ok) 7 ⟨Try.f9, by kernel_rfl, by kernel_rfl⟩ (by kernel_rfl) (by kernel_rfl) (by kernel_rfl) cno_step_eq cno_hg cno_read_ok
def filR (L : Rl) : Rl := L.filter fun r => decide (r.1 < r.2)
theorem filR_take {L : Rl} {j : Nat} (hj : j < L.length) : filR (L.take (j + 1)) = bif decide (L[j].1 < L[j].2) then filR (L.take j) ++ [L[j]] else filR (L.take j) := by
  unfold filR
  rw [List.take_succ_eq_append_getElem hj, List.filter_append]
  cases h : decide (L[j].1 < L[j].2)
  · rw [List.filter_cons_of_neg (by simpa using h)]; simp
  · rw [List.filter_cons_of_pos (by simpa using h)]; simp
theorem filR_len (L : Rl) : (filR L).length ≤ L.length := by unfold filR; exact List.length_filter_le _ _
theorem cno_run {L : Rl} (hn : L.length ≤ 10000) : cno_cond (L, (L.length : Int)) (0, 0, []) = true ∧ ((okR L = true ∧ cno_g (L, (L.length : Int)) (0, 0, []) = (1, (0, (L.length : Int), filR L))) ∨ (okR L = false ∧ ∃ j : Nat, cno_g (L, (L.length : Int)) (0, 0, []) = (0, (8, (j : Int), filR (L.take j))))) := by
  obtain ⟨h1, h2⟩ := run_all (step := cno_step (L, (L.length : Int))) (St := fun i => (0, (i : Int), filR (L.take i))) (Lv := fun i => (0, (8, (i : Int), filR (L.take i)))) (t := (1, (0, (L.length : Int), filR L))) (l := L) (p := fun r => bif decide (r.1 < r.2) then (decide (-1048576 ≤ r.1) && decide (r.2 ≤ 1048576)) else true) (fun j hj => by
    have hl := filR_len (L.take j)
    rw [List.length_take] at hl
    obtain ⟨r1, r2⟩ := room16 (n := (filR (L.take j)).length + 1) (by omega)
    rw [filR_take hj]
    simp only [cno_step, Tr.val, lt_t hj, nn_t, el_r hj, r1, r2, wi1 hj (show (L.length : Int) ≤ 9223372036854775806 by omega), Bool.and_self, cond_true]
    by_cases h : L[j].1 < L[j].2
    · have d1 : decide (L[j].1 < L[j].2) = true := decide_eq_true h
      have d2 : decide (L[j].1 ≥ L[j].2) = false := decide_eq_false (by omega)
      have e : (!bif decide (L[j].1 ≥ (-1048576 : Int)) then decide (L[j].2 ≤ (1048576 : Int)) else false) = !(decide (-1048576 ≤ L[j].1) && decide (L[j].2 ≤ 1048576)) := by
        rw [Bool.eq_iff_iff]
        simp [Bool.cond_eq_ite]
      rw [e]
      simp only [d1, d2, cond_true, cond_false]
      cases (decide (-1048576 ≤ L[j].1) && decide (L[j].2 ≤ 1048576)) <;> rfl
    · have d1 : decide (L[j].1 < L[j].2) = false := decide_eq_false h
      have d2 : decide (L[j].1 ≥ L[j].2) = true := decide_eq_true (by omega)
      simp only [d1, d2, cond_true, cond_false]) (by simp only [cno_step, Tr.val, Int.lt_irrefl, decide_false, cond_false, List.take_length])
  refine ⟨h1, ?_⟩
  rcases h2 with ⟨h, h3⟩ | ⟨h, j, _, _, _, h4⟩
  · exact .inl ⟨h, h3⟩
  · exact .inr ⟨h, j, h4⟩
theorem memR_fil {L : Rl} {x : Int} : memR (filR L) x ↔ memR L x := by
  unfold memR filR
  constructor
  · rintro ⟨r, hr, h⟩; exact ⟨r, (List.mem_filter.1 hr).1, h⟩
  · rintro ⟨r, hr, h1, h2⟩; exact ⟨r, List.mem_filter.2 ⟨hr, decide_eq_true (by omega)⟩, h1, h2⟩
theorem srt_nf {L : Rl} (h : okR L = true) : mrgR (srtL (t := (.prod (.int .i64) (.int .i64))) cmpR (filR L)) = nfR (memR L) := by
  obtain ⟨_, o2, o3⟩ := srtL_ok (t := (.prod (.int .i64) (.int .i64))) cmpR_swo (filR L)
  have hm : ∀ r, r ∈ srtL (t := (.prod (.int .i64) (.int .i64))) cmpR (filR L) ↔ r ∈ filR L := fun r => o2.mem_iff
  have h1 : ∀ r ∈ srtL (t := (.prod (.int .i64) (.int .i64))) cmpR (filR L), r.1 < r.2 ∧ -1048577 < r.1 := fun r hr => by
    obtain ⟨a, b⟩ := List.mem_filter.1 ((hm r).1 hr)
    have b := of_decide_eq_true b
    have c := List.all_eq_true.1 h r a
    rw [decide_eq_true b, cond_true, Bool.and_eq_true, decide_eq_true_eq, decide_eq_true_eq] at c
    exact ⟨b, Int.lt_of_lt_of_le (by decide) c.1⟩
  refine (mrgR_nf (lo := -1048577) h1 (o3.imp fun {a b} h => ?_)).trans (nfR_congr fun x => ?_)
  · rw [cmpR_lt] at h
    have := of_decide_eq_false h
    omega
  · rw [← memR_fil (L := L)]
    unfold memR
    constructor
    · rintro ⟨r, hr, g⟩; exact ⟨r, (hm r).1 hr, g⟩
    · rintro ⟨r, hr, g⟩; exact ⟨r, (hm r).2 hr, g⟩
theorem srt_len (L : Rl) : (srtL (t := (.prod (.int .i64) (.int .i64))) cmpR L).length = L.length := (srtL_ok (t := (.prod (.int .i64) (.int .i64))) cmpR_swo L).1
set_option maxRecDepth 100000 in
theorem cnoc_tree (L : (Ty.list (.prod (.int .i64) (.int .i64))).den) : evalF Try.prog ruG_S55 (opens [32]) ruH_L51 9 9 [.one (.d false false (.prod (.int .i64) (.int .i64)) L)] = .br (((cno_cond (L, (↑(List.length L) : Int)) ((0 : Int), (0 : Int), [])) && (bif Nat.beq (Prod.fst (cno_g (L, (↑(List.length L) : Int)) ((0 : Int), (0 : Int), []))) (0 : Nat) then true else ((Nat.beq (Prod.fst (cno_g (L, (↑(List.length L) : Int)) ((0 : Int), (0 : Int), []))) (1 : Nat)) && ((decide (List.length (Prod.snd (Prod.snd (Prod.snd (cno_g (L, (↑(List.length L) : Int)) ((0 : Int), (0 : Int), []))))) ≤ (100000 : Nat))) && (decide (List.length (srtL cmpR (Prod.snd (Prod.snd (Prod.snd (cno_g (L, (↑(List.length L) : Int)) ((0 : Int), (0 : Int), [])))))) ≤ (100000 : Nat)))))))) (.ret (.tup [(false, [.d false false (.prod (.int .i64) (.int .i64)) (bif Nat.beq (Prod.fst (cno_g (L, (↑(List.length L) : Int)) ((0 : Int), (0 : Int), []))) (0 : Nat) then [] else mrgR (srtL cmpR (Prod.snd (Prod.snd (Prod.snd (cno_g (L, (↑(List.length L) : Int)) ((0 : Int), (0 : Int), [])))))))]), (false, [.v false (.int .i64 (bif Nat.beq (Prod.fst (cno_g (L, (↑(List.length L) : Int)) ((0 : Int), (0 : Int), []))) (0 : Nat) then Prod.fst (Prod.snd (cno_g (L, (↑(List.length L) : Int)) ((0 : Int), (0 : Int), []))) else (0 : Int)))])])) (.bad 116) := by kernel_rfl
theorem cnoc_val (L : (Ty.list (.prod (.int .i64) (.int .i64))).den) (hc : (decide (L.length ≤ 10000)) = true) : (.br (((cno_cond (L, (↑(List.length L) : Int)) ((0 : Int), (0 : Int), [])) && (bif Nat.beq (Prod.fst (cno_g (L, (↑(List.length L) : Int)) ((0 : Int), (0 : Int), []))) (0 : Nat) then true else ((Nat.beq (Prod.fst (cno_g (L, (↑(List.length L) : Int)) ((0 : Int), (0 : Int), []))) (1 : Nat)) && ((decide (List.length (Prod.snd (Prod.snd (Prod.snd (cno_g (L, (↑(List.length L) : Int)) ((0 : Int), (0 : Int), []))))) ≤ (100000 : Nat))) && (decide (List.length (srtL cmpR (Prod.snd (Prod.snd (Prod.snd (cno_g (L, (↑(List.length L) : Int)) ((0 : Int), (0 : Int), [])))))) ≤ (100000 : Nat)))))))) (.ret (.tup [(false, [.d false false (.prod (.int .i64) (.int .i64)) (bif Nat.beq (Prod.fst (cno_g (L, (↑(List.length L) : Int)) ((0 : Int), (0 : Int), []))) (0 : Nat) then [] else mrgR (srtL cmpR (Prod.snd (Prod.snd (Prod.snd (cno_g (L, (↑(List.length L) : Int)) ((0 : Int), (0 : Int), [])))))))]), (false, [.v false (.int .i64 (bif Nat.beq (Prod.fst (cno_g (L, (↑(List.length L) : Int)) ((0 : Int), (0 : Int), []))) (0 : Nat) then Prod.fst (Prod.snd (cno_g (L, (↑(List.length L) : Int)) ((0 : Int), (0 : Int), []))) else (0 : Int)))])])) (.bad 116) : Tr AV).val = some (.tup [(false, [.d false false (.prod (.int .i64) (.int .i64)) (nmL L)]), (false, [.v false (.int .i64 (nmE L))])]) := by
  obtain ⟨K, rfl⟩ : ∃ K : Rl, K = L := ⟨L, rfl⟩
  have hn : K.length ≤ 10000 := of_decide_eq_true hc
  obtain ⟨v1, v2⟩ := cno_run hn
  have l1 := filR_len K
  have l2 := srt_len (filR K)
  have c1 : decide ((filR K).length ≤ 100000) = true := decide_eq_true (by omega)
  have c2 : decide ((srtL (t := (.prod (.int .i64) (.int .i64))) cmpR (filR K)).length ≤ 100000) = true := decide_eq_true (by omega)
  unfold nmL nmE
  show cond _ _ _ = _
  rcases v2 with ⟨h, g⟩ | ⟨h, j, g⟩
  · simp only [v1, g, h, c1, c2, srt_nf h, Nat.beq, Bool.and_self, cond_true, cond_false, Tr.val]
  · simp only [v1, g, h, Nat.beq, Bool.and_self, cond_true, cond_false, Tr.val]
noncomputable def cnoc_g : List AV → Option (Tr AV)
  | [.one (.d _ _ (.prod (.int .i64) (.int .i64)) L)] => some (.br (decide (L.length ≤ 10000)) (.ret (.tup [(false, [.d false false (.prod (.int .i64) (.int .i64)) (nmL L)]), (false, [.v false (.int .i64 (nmE L))])])) (.bad 900))
  | _ => none
set_option maxHeartbeats 4000000 in
theorem cnoc_ok : FunOK Try.prog 9 cnoc_g := by
  refine fun_ok (by kernel_rfl) (ruG_S55_ok) (ruH_L51_ok) 9 (On := (opens [32])) (fun args t h => ?_)
  unfold cnoc_g at h
  split at h
  · rename_i _ _ L
    simp only [Option.some.injEq] at h
    subst h
    refine ⟨[.one (.d false false (.prod (.int .i64) (.int .i64)) L)], rfl, fun fr w us h => h, fun r hr => ?_⟩
    obtain ⟨hc, hr⟩ := br_bad hr
    simp only [Tr.val, Option.some.injEq] at hr
    subst hr
    rw [cnoc_tree]
    exact cnoc_val L hc
  · cases h
noncomputable def ruH_S52 : Sums := addS 9 cnoc_g ruG_S55
theorem ruH_S52_ok : SumOK Try.prog ruH_S52 := addS_ok (cnoc_ok) (ruG_S55_ok)
set_option maxRecDepth 100000 in
theorem law_RunsNorms_tree (L : (Ty.list (.prod (.int .i64) (.int .i64))).den) (x : Int) : evalF Try.prog ruH_S52 (opens []) ruH_L51 9 3 [.one (.d false false (.prod (.int .i64) (.int .i64)) L), .one (.v false (.int .i64 x))] = .br (((decide (List.length (fewR L) ≤ (10000 : Nat))) && ((decide (List.length (fewR L) ≤ (10000 : Nat))) && ((decide (List.length (nmL (fewR L)) ≤ (100000 : Nat))) && (bif bif eqRl (nmL (fewR L)) (nmL (fewR L)) then nmE (fewR L) == nmE (fewR L) else false then ((decide (List.length (fewR L) ≤ (100000 : Nat))) && ((decide (List.length (fewR L) ≤ (100000 : Nat))) && (bif valB (fewR L) == valB (fewR L) then ((decide (List.length (fewR L) ≤ (100000 : Nat))) && ((decide (List.length (fewR L) ≤ (100000 : Nat))) && (bif lenV (fewR L) == lenV (fewR L) then ((decide (List.length (fewR L) ≤ (100000 : Nat))) && (decide (List.length (fewR L) ≤ (100000 : Nat)))) else true))) else true))) else true))))) (.ret (.one (.v false (.bool (bif bif eqRl (nmL (fewR L)) (nmL (fewR L)) then nmE (fewR L) == nmE (fewR L) else false then bif valB (fewR L) == valB (fewR L) then bif lenV (fewR L) == lenV (fewR L) then bif memV (fewR L) x == memV (fewR L) x then true else false else false else false else false))))) (.bad 116) := by kernel_rfl
set_option maxHeartbeats 4000000 in
theorem law_RunsNorms_all (L : (Ty.list (.prod (.int .i64) (.int .i64))).den) (x : Int) (r0 : Ty.InR (.list (.prod (.int .i64) (.int .i64))) L) (l1 : -9223372036854775808 ≤ x) (g1 : x ≤ 9223372036854775807) : Tr.all (fun r => ∃ kn, r = AV.one (.v kn (.bool true))) (.br (((decide (List.length (fewR L) ≤ (10000 : Nat))) && ((decide (List.length (fewR L) ≤ (10000 : Nat))) && ((decide (List.length (nmL (fewR L)) ≤ (100000 : Nat))) && (bif bif eqRl (nmL (fewR L)) (nmL (fewR L)) then nmE (fewR L) == nmE (fewR L) else false then ((decide (List.length (fewR L) ≤ (100000 : Nat))) && ((decide (List.length (fewR L) ≤ (100000 : Nat))) && (bif valB (fewR L) == valB (fewR L) then ((decide (List.length (fewR L) ≤ (100000 : Nat))) && ((decide (List.length (fewR L) ≤ (100000 : Nat))) && (bif lenV (fewR L) == lenV (fewR L) then ((decide (List.length (fewR L) ≤ (100000 : Nat))) && (decide (List.length (fewR L) ≤ (100000 : Nat)))) else true))) else true))) else true))))) (.ret (.one (.v false (.bool (bif bif eqRl (nmL (fewR L)) (nmL (fewR L)) then nmE (fewR L) == nmE (fewR L) else false then bif valB (fewR L) == valB (fewR L) then bif lenV (fewR L) == lenV (fewR L) then bif memV (fewR L) x == memV (fewR L) x then true else false else false else false else false))))) (.bad 116)) := by
  have ha := few_len L
  have l1 := nmL_len (fewR L)
  have c2 : decide ((fewR L).length ≤ 10000) = true := decide_eq_true (by omega)
  have c1 : decide ((fewR L).length ≤ 100000) = true := decide_eq_true (by omega)
  have d1 : decide ((nmL (fewR L)).length ≤ 100000) = true := decide_eq_true (by omega)
  simp only [c1, c2, d1, eqRl_refl, beq_self_eq_true, Bool.and_self, cond_true, cond_false]
  exact ⟨fun _ => ⟨_, rfl⟩, fun h => by cases h⟩
set_option maxHeartbeats 4000000 in
theorem law_RunsNorms (v0 : Value) (x0 : ((.list (.prod (.int .i64) (.int .i64))) : Ty).den) (r0 : Ty.InR (.list (.prod (.int .i64) (.int .i64))) x0) (x : Int) (l1 : -9223372036854775808 ≤ x) (g1 : x ≤ 9223372036854775807) (z_w : World) (i0 : (AV.one (.d false false (.prod (.int .i64) (.int .i64)) x0)).is [] (fun _ => none) (fun b => b < z_w.heap.size) z_w v0) : Calls Try.prog 3 #[v0, .int .i64 x] z_w fun e w' => e = .returned (.bool true) ∧ Ext z_w w' := by
  obtain ⟨L, rfl⟩ : ∃ y, y = x0 := ⟨_, rfl⟩
  refine law_of_tree (by kernel_rfl) (ruH_S52_ok) (ruH_L51_ok) (law_RunsNorms_tree L x) (law_RunsNorms_all L x r0 l1 g1) rfl z_w _ _ (fun _ h => h) ⟨_, _, rfl, i0, ⟨_, _, rfl, rfl, rfl⟩⟩
end Go.Proofs.Ytklagccjkbajiaa
