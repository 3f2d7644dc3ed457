/-
  Layer 45: the document's Duration.
-/
import Derived.Test.YthhfhiggacdneaaProg
import Derived.Test.YthhfhiggacdneaaFvX
import Derived.Test.YthhfhiggacdneaaFvZ
import Derived.Test.YthhfhiggacdneaaAut
import Derived.Test.YthhfhiggacdneaaPl
import Derived.Test.YthhfhiggacdneaaSqr
import Derived.Test.YthhfhiggacdneaaPuC
namespace Go.Proofs.Ythhfhiggacdneaa
open Go
def dsum (a b c d ac en cr ex t : Int) : Nat → Int
  | 0 => 0
  | k + 1 => dsum a b c d ac en cr ex t k + ivl (sq a b c d ac en cr ex (k + 1)) t
def durV (a b c d ac en cr ex t : Int) : Int := bif bval a b c d ac en cr ex && (decide (1 ≤ t) && (decide (t ≤ 1048576) && decide (dom a b c d ≤ 65536))) then dsum a b c d ac en cr ex t (dom a b c d).toNat else 0
def durE (a b c d ac en cr ex t : Int) : Int := bif bval a b c d ac en cr ex && (decide (1 ≤ t) && decide (t ≤ 1048576)) then (bif decide (dom a b c d > 65536) then 2 else 0) else 1
theorem ivl_bd {z t : Int} (hz : z ≤ 1099511627776) (h1 : 1 ≤ t) (h2 : t ≤ 1048576) : 0 ≤ ivl z t ∧ ivl z t ≤ 1048576 := by
  by_cases h : 1 ≤ z
  · have := ivl_in h hz h1 h2; omega
  · rw [ivl_out (by rw [decide_eq_false h]; rfl)]; omega
theorem dsum_bd {a b c d ac en cr ex t : Int} (h1 : 1 ≤ t) (h2 : t ≤ 1048576) : ∀ k : Nat, 0 ≤ dsum a b c d ac en cr ex t k ∧ dsum a b c d ac en cr ex t k ≤ 1048576 * k
  | 0 => ⟨Int.le_refl _, Int.le_refl _⟩
  | k + 1 => by
    have := dsum_bd (a := a) (b := b) (c := c) (d := d) (ac := ac) (en := en) (cr := cr) (ex := ex) h1 h2 k
    have := ivl_bd (z := sq a b c d ac en cr ex (k + 1)) (sq_nonneg _ _ _ _ _ _ _ _ _).2.1 h1 h2
    simp only [dsum]
    push_cast
    omega
abbrev rdu_U : Type := Int × Int × Int × Int × Int × Int × Int × Int × Int × Int × Int × Int
abbrev rdu_V : Type := Int × Int
noncomputable def rdu_St (u : rdu_U) (v : rdu_V) : Stt := ⟨[.one .junk, .one (.v false (.int .i64 u.1)), .one (.p 0 0), .one .junk, .one (.v false (.int .i64 u.2.1)), .one (.v false (.int .i64 u.2.2.1)), .one (.v false (.int .i64 u.2.2.2.1)), .one (.v false (.int .i64 v.1)), .one (.v false (.int .i64 v.2)), .one .junk, .one .junk, .one .junk, .one .junk, .one .junk, .one .junk, .one .junk, .one .junk, .one .junk, .one .junk, .one .junk, .one .junk, .one .junk, .one .junk, .one .junk, .one .junk, .one .junk, .one .junk, .one .junk, .one .junk, .one .junk, .one .junk, .one .junk, .one .junk, .one .junk, .one .junk, .one .junk, .one .junk], [(0, .cells [.v false (.int .i64 u.2.2.2.2.1), .v false (.int .i64 u.2.2.2.2.2.1), .v false (.int .i64 u.2.2.2.2.2.2.1), .v false (.int .i64 u.2.2.2.2.2.2.2.1), .v false (.int .i64 u.2.2.2.2.2.2.2.2.1), .v false (.int .i64 u.2.2.2.2.2.2.2.2.2.1), .v false (.int .i64 u.2.2.2.2.2.2.2.2.2.2.1), .v false (.int .i64 u.2.2.2.2.2.2.2.2.2.2.2)])], 1022⟩
noncomputable def rdu_step (u : rdu_U) (v : rdu_V) : Tr (rdu_V ⊕ (Nat × rdu_V)) :=
  match u, v with
  | (t, _, _, n, a, b, c, d, ac, en, cr, ex), (s, i) => .br (decide (i ≤ n)) (.ret (.inl (IntKind.wrap IntKind.i64 (s + ivl (sq a b c d ac en cr ex i) t), IntKind.wrap IntKind.i64 (i + (1 : Int))))) (.ret (.inr (0, (s, i))))
set_option maxRecDepth 100000 in
set_option maxHeartbeats 4000000 in
theorem rdu_step_eq : ∀ (u : rdu_U) (v : rdu_V), (evalC Try.prog (evalB Try.prog puC_S59 (opens []) L0 7).1 (evalB Try.prog puC_S59 (opens []) L0 7).2 (opens []) (L0 11) 100000 (0 :: [0, 1, 0, 1, 1, 1, 1, 1]) (loopOf (bodyOf Try.prog 11) [1, 1, 1, 1, 1, 0, 1, 0]) (rdu_St u v) []).bind (finF [0, 3, 9, 10, 11, 12, 13, 14, 15, 16, 17, 18, 19, 20, 21, 22, 23, 24, 25, 26, 27, 28, 29, 30, 31, 32, 33, 34, 35, 36] [] [0] [] 1022) = (rdu_step u v).bind (outA (rdu_St u) [.exit 0]) := by
  rintro ⟨t, z0, z1, n, a, b, c, d, ac, en, cr, ex⟩ ⟨s, i⟩
  kernel_rfl
noncomputable def rdu_rd (b : Bool) (o1 : Option AV) (o2 : Option AV) (o4 : Option AV) (o5 : Option AV) (o6 : Option AV) (o7 : Option AV) (o8 : Option AV) (own : Own) : Option (rdu_U × rdu_V) := zrT b <| zrO o1 fun za1 => zrA1 za1 fun zc2 => zrI .i64 zc2 fun t => zrO o2 fun za3 => zrA1 za3 fun zc4 => zrP 0 0 zc4 <| zrO o4 fun za5 => zrA1 za5 fun zc6 => zrI .i64 zc6 fun z0 => zrO o5 fun za7 => zrA1 za7 fun zc8 => zrI .i64 zc8 fun z1 => zrO o6 fun za9 => zrA1 za9 fun zc10 => zrI .i64 zc10 fun n => zrO o7 fun za11 => zrA1 za11 fun zc12 => zrI .i64 zc12 fun s => zrO o8 fun za13 => zrA1 za13 fun zc14 => zrI .i64 zc14 fun i => zrL own fun zq15 zw16 => zrKey 0 zq15 fun zk17 => zrC zk17 fun zl18 => zrL zl18 fun zc19 zr20 => zrI .i64 zc19 fun a => zrL zr20 fun zc21 zr22 => zrI .i64 zc21 fun b => zrL zr22 fun zc23 zr24 => zrI .i64 zc23 fun c => zrL zr24 fun zc25 zr26 => zrI .i64 zc25 fun d => zrL zr26 fun zc27 zr28 => zrI .i64 zc27 fun ac => zrL zr28 fun zc29 zr30 => zrI .i64 zc29 fun en => zrL zr30 fun zc31 zr32 => zrI .i64 zc31 fun cr => zrL zr32 fun zc33 zr34 => zrI .i64 zc33 fun ex => zrN zr34 <| zrN zw16 <| some ((t, z0, z1, n, a, b, c, d, ac, en, cr, ex), (s, i))
noncomputable def rdu_can (st : Stt) : Stt := canA [0, 3, 9, 10, 11, 12, 13, 14, 15, 16, 17, 18, 19, 20, 21, 22, 23, 24, 25, 26, 27, 28, 29, 30, 31, 32, 33, 34, 35, 36] [] [0] [] 1022 st
noncomputable def rdu_cok (st : Stt) : Bool := canAok [0, 3, 9, 10, 11, 12, 13, 14, 15, 16, 17, 18, 19, 20, 21, 22, 23, 24, 25, 26, 27, 28, 29, 30, 31, 32, 33, 34, 35, 36] [] [0] [] 1022 st
noncomputable def rdu_read (st : Stt) : Option (rdu_U × rdu_V) := rdu_rd (rdu_cok st && (staysA [] [0] st.own && juAll [0, 3, 9, 10, 11, 12, 13, 14, 15, 16, 17, 18, 19, 20, 21, 22, 23, 24, 25, 26, 27, 28, 29, 30, 31, 32, 33, 34, 35, 36] (rdu_can st).tm 37)) (rdu_can st).tm[1]? (rdu_can st).tm[2]? (rdu_can st).tm[4]? (rdu_can st).tm[5]? (rdu_can st).tm[6]? (rdu_can st).tm[7]? (rdu_can st).tm[8]? (rdu_can st).own
set_option maxRecDepth 100000 in
set_option maxHeartbeats 4000000 in
theorem rdu_rd_ok {b : Bool} {tm : List AV} {own : Own} {u : rdu_U} {v : rdu_V} (hj : b = true → juAll [0, 3, 9, 10, 11, 12, 13, 14, 15, 16, 17, 18, 19, 20, 21, 22, 23, 24, 25, 26, 27, 28, 29, 30, 31, 32, 33, 34, 35, 36] tm 37 = true) (h : rdu_rd b tm[1]? tm[2]? tm[4]? tm[5]? tm[6]? tm[7]? tm[8]? own = some (u, v)) : b = true ∧ tm = (rdu_St u v).tm ∧ own = (rdu_St u v).own := by
  unfold rdu_rd at h
  obtain ⟨rfl, h0⟩ := zrT_some h
  obtain ⟨za1, e1, h1⟩ := zrO_some h0
  obtain ⟨zc2, rfl, h2⟩ := zrA1_some h1
  obtain ⟨t, rfl, h3⟩ := zrI_some h2
  obtain ⟨za3, e2, h4⟩ := zrO_some h3
  obtain ⟨zc4, rfl, h5⟩ := zrA1_some h4
  obtain ⟨rfl, h6⟩ := zrP_some h5
  obtain ⟨za5, e4, h7⟩ := zrO_some h6
  obtain ⟨zc6, rfl, h8⟩ := zrA1_some h7
  obtain ⟨z0, rfl, h9⟩ := zrI_some h8
  obtain ⟨za7, e5, h10⟩ := zrO_some h9
  obtain ⟨zc8, rfl, h11⟩ := zrA1_some h10
  obtain ⟨z1, rfl, h12⟩ := zrI_some h11
  obtain ⟨za9, e6, h13⟩ := zrO_some h12
  obtain ⟨zc10, rfl, h14⟩ := zrA1_some h13
  obtain ⟨n, rfl, h15⟩ := zrI_some h14
  obtain ⟨za11, e7, h16⟩ := zrO_some h15
  obtain ⟨zc12, rfl, h17⟩ := zrA1_some h16
  obtain ⟨s, rfl, h18⟩ := zrI_some h17
  obtain ⟨za13, e8, h19⟩ := zrO_some h18
  obtain ⟨zc14, rfl, h20⟩ := zrA1_some h19
  obtain ⟨i, rfl, h21⟩ := zrI_some h20
  obtain ⟨zq15, zw16, rfl, h22⟩ := zrL_some h21
  obtain ⟨zk17, rfl, h23⟩ := zrKey_some h22
  obtain ⟨zl18, rfl, h24⟩ := zrC_some h23
  obtain ⟨zc19, zr20, rfl, h25⟩ := zrL_some h24
  obtain ⟨a, rfl, h26⟩ := zrI_some h25
  obtain ⟨zc21, zr22, rfl, h27⟩ := zrL_some h26
  obtain ⟨b, rfl, h28⟩ := zrI_some h27
  obtain ⟨zc23, zr24, rfl, h29⟩ := zrL_some h28
  obtain ⟨c, rfl, h30⟩ := zrI_some h29
  obtain ⟨zc25, zr26, rfl, h31⟩ := zrL_some h30
  obtain ⟨d, rfl, h32⟩ := zrI_some h31
  obtain ⟨zc27, zr28, rfl, h33⟩ := zrL_some h32
  obtain ⟨ac, rfl, h34⟩ := zrI_some h33
  obtain ⟨zc29, zr30, rfl, h35⟩ := zrL_some h34
  obtain ⟨en, rfl, h36⟩ := zrI_some h35
  obtain ⟨zc31, zr32, rfl, h37⟩ := zrL_some h36
  obtain ⟨cr, rfl, h38⟩ := zrI_some h37
  obtain ⟨zc33, zr34, rfl, h39⟩ := zrL_some h38
  obtain ⟨ex, rfl, h40⟩ := zrI_some h39
  obtain ⟨rfl, h41⟩ := zrN_some h40
  obtain ⟨rfl, h42⟩ := zrN_some h41
  have h := Option.some.inj h42
  have hu := congrArg Prod.fst h
  have hv := congrArg Prod.snd h
  dsimp only at hu hv
  subst hu
  subst hv
  exact ⟨rfl, (tm_fill (hj rfl) (Lv := [(1, .one (.v false (.int .i64 t))), (2, .one (.p 0 0)), (4, .one (.v false (.int .i64 z0))), (5, .one (.v false (.int .i64 z1))), (6, .one (.v false (.int .i64 n))), (7, .one (.v false (.int .i64 s))), (8, .one (.v false (.int .i64 i)))]) (by kernel_rfl) ⟨e1, e2, e4, e5, e6, e7, e8, trivial⟩).trans (by kernel_rfl), rfl⟩
theorem rdu_read_ok (st : Stt) (u : rdu_U) (v : rdu_V) (h : rdu_read st = some (u, v)) : rdu_cok st = true ∧ staysA [] [0] st.own = true ∧ rdu_can st = rdu_St u v := by
  obtain ⟨h1, h2, h3⟩ := rdu_rd_ok (fun hb => by rw [Bool.and_eq_true, Bool.and_eq_true] at hb; exact hb.2.2) h
  rw [Bool.and_eq_true, Bool.and_eq_true] at h1
  refine ⟨h1.1, h1.2.1, ?_⟩
  have e : rdu_can st = ⟨(rdu_can st).tm, (rdu_can st).own, 1022⟩ := by kernel_rfl
  rw [e, h2, h3]
  rfl
noncomputable def rdu_cond (u : rdu_U) (v : rdu_V) : Bool := runC (rdu_step u) v
noncomputable def rdu_g (u : rdu_U) (v : rdu_V) : Nat × rdu_V := runG (rdu_step u) v
theorem rdu_hg : ∀ (u : rdu_U) (v : rdu_V), rdu_cond u v = true → loopN (rdu_step u) ((fun u v => runF (rdu_step u) v) u v) v = some (rdu_g u v) := by
  exact fun u v h => run_hg h
noncomputable def rdu_m (st : Stt) : Option (Tr (Ex × Stt)) := sumM rdu_read rdu_cond rdu_St rdu_g [(0, .exit 0)] st
noncomputable def puE_L51 : FuncId → Loops := addL 11 [0, 1, 0, 1, 1, 1, 1, 1] rdu_m L0
set_option maxRecDepth 100000 in
set_option maxHeartbeats 4000000 in
theorem puE_L51_ok : LoopsOK Try.prog puE_L51 :=
  loop_sumF (body := (bodyOf Try.prog 11)) (c := (loopOf (bodyOf Try.prog 11) [1, 1, 1, 1, 1, 0, 1, 0])) (kinds := [.exit 0]) (allow := [(0, .exit 0)]) (St := rdu_St) (step := rdu_step) (W := [0, 3, 9, 10, 11, 12, 13, 14, 15, 16, 17, 18, 19, 20, 21, 22, 23, 24, 25, 26, 27, 28, 29, 30, 31, 32, 33, 34, 35, 36]) (As := []) (ks := [0]) (dd := []) (nx := 1022) (n := 100000) (g := rdu_g) (cond := rdu_cond) (fuel := (fun u v => runF (rdu_step u) v)) (read := rdu_read) (by kernel_rfl) (puC_S59_ok) (L0_ok _) 7 ⟨Try.f11, by kernel_rfl, by kernel_rfl⟩ (by kernel_rfl) (by kernel_rfl) (by kernel_rfl) rdu_step_eq rdu_hg rdu_read_ok
theorem rdu_run {a b c d ac en cr ex t : Int} {z0 z1 n : Int} (hb : bval a b c d ac en cr ex = true) (h1 : 1 ≤ t) (h2 : t ≤ 1048576) (hn : n = dom a b c d) (hn2 : n ≤ 65536) : rdu_cond (t, z0, z1, n, a, b, c, d, ac, en, cr, ex) (0, 1) = true ∧ (rdu_g (t, z0, z1, n, a, b, c, d, ac, en, cr, ex) (0, 1)).1 = 0 ∧ (rdu_g (t, z0, z1, n, a, b, c, d, ac, en, cr, ex) (0, 1)).2.1 = dsum a b c d ac en cr ex t n.toNat := by
  have hn0 := (dom_in a b c d).1
  refine run_inv (step := rdu_step (t, z0, z1, n, a, b, c, d, ac, en, cr, ex)) (Inv := fun v => ∃ k : Nat, v.2 = k + 1 ∧ v.1 = dsum a b c d ac en cr ex t k ∧ (k : Int) ≤ n) (μ := fun v => (n + 1 - v.2).toNat) (Q := fun r => r.1 = 0 ∧ r.2.1 = dsum a b c d ac en cr ex t n.toNat) ?_ (0, 1) ⟨0, rfl, rfl, by omega⟩
  rintro ⟨s, i⟩ ⟨k, hi, hs, hk⟩
  dsimp only at hi hs
  subst hi hs
  unfold rdu_step
  dsimp only
  simp only [Tr.all]
  have B := dsum_bd (a := a) (b := b) (c := c) (d := d) (ac := ac) (en := en) (cr := cr) (ex := ex) h1 h2 k
  have I := ivl_bd (z := sq a b c d ac en cr ex (k + 1)) (sq_nonneg _ _ _ _ _ _ _ _ _).2.1 h1 h2
  refine ⟨fun c1 => ?_, fun c1 => ?_⟩
  · simp at c1
    have e1 : IntKind.i64.wrap (dsum a b c d ac en cr ex t k + ivl (sq a b c d ac en cr ex (k + 1)) t) = dsum a b c d ac en cr ex t k + ivl (sq a b c d ac en cr ex (k + 1)) t := IntWalk.i64_in _ ⟨by omega, by omega⟩
    have e2 : IntKind.i64.wrap ((k : Int) + 1 + 1) = k + 1 + 1 := IntWalk.i64_in _ ⟨by omega, by omega⟩
    refine ⟨⟨k + 1, ?_, ?_, by omega⟩, ?_⟩
    · rw [e2]; push_cast; rfl
    · simp only [e1, dsum]
    · simp only [e2]; omega
  · simp at c1
    have : (k : Int) = n := by omega
    subst this
    exact ⟨by simp, by simp⟩
set_option maxRecDepth 100000 in
theorem rdr_tree (a : Int) (b : Int) (c : Int) (d : Int) (ac : Int) (en : Int) (cr : Int) (ex : Int) (t : Int) : evalF Try.prog puC_S59 (opens []) puE_L51 9 11 [.ag [.v false (.int .i64 a), .v false (.int .i64 b), .v false (.int .i64 c), .v false (.int .i64 d), .v false (.int .i64 ac), .v false (.int .i64 en), .v false (.int .i64 cr), .v false (.int .i64 ex)], .one (.v false (.int .i64 t))] = .br ((bif bif bif !bval a b c d ac en cr ex then true else decide (t < (1 : Int)) then true else decide (t > (1048576 : Int)) then true else (bif decide (dom a b c d > (65536 : Int)) then true else ((rdu_cond (t, (0 : Int), (0 : Int), dom a b c d, a, b, c, d, ac, en, cr, ex) ((0 : Int), (1 : Int))) && (Nat.beq (Prod.fst (rdu_g (t, (0 : Int), (0 : Int), dom a b c d, a, b, c, d, ac, en, cr, ex) ((0 : Int), (1 : Int)))) (0 : Nat)))))) (.ret (.tup [(false, [.v false (.int .i64 (bif bif bif !bval a b c d ac en cr ex then true else decide (t < (1 : Int)) then true else decide (t > (1048576 : Int)) then (0 : Int) else bif decide (dom a b c d > (65536 : Int)) then (0 : Int) else Prod.fst (Prod.snd (rdu_g (t, (0 : Int), (0 : Int), dom a b c d, a, b, c, d, ac, en, cr, ex) ((0 : Int), (1 : Int))))))]), (false, [.v false (.int .i64 (bif bif bif !bval a b c d ac en cr ex then true else decide (t < (1 : Int)) then true else decide (t > (1048576 : Int)) then (1 : Int) else bif decide (dom a b c d > (65536 : Int)) then (2 : Int) else (0 : Int)))])])) (.bad 116) := by kernel_rfl
set_option maxHeartbeats 4000000 in
theorem rdr_val (a : Int) (b : Int) (c : Int) (d : Int) (ac : Int) (en : Int) (cr : Int) (ex : Int) (t : Int) : (.br ((bif bif bif !bval a b c d ac en cr ex then true else decide (t < (1 : Int)) then true else decide (t > (1048576 : Int)) then true else (bif decide (dom a b c d > (65536 : Int)) then true else ((rdu_cond (t, (0 : Int), (0 : Int), dom a b c d, a, b, c, d, ac, en, cr, ex) ((0 : Int), (1 : Int))) && (Nat.beq (Prod.fst (rdu_g (t, (0 : Int), (0 : Int), dom a b c d, a, b, c, d, ac, en, cr, ex) ((0 : Int), (1 : Int)))) (0 : Nat)))))) (.ret (.tup [(false, [.v false (.int .i64 (bif bif bif !bval a b c d ac en cr ex then true else decide (t < (1 : Int)) then true else decide (t > (1048576 : Int)) then (0 : Int) else bif decide (dom a b c d > (65536 : Int)) then (0 : Int) else Prod.fst (Prod.snd (rdu_g (t, (0 : Int), (0 : Int), dom a b c d, a, b, c, d, ac, en, cr, ex) ((0 : Int), (1 : Int))))))]), (false, [.v false (.int .i64 (bif bif bif !bval a b c d ac en cr ex then true else decide (t < (1 : Int)) then true else decide (t > (1048576 : Int)) then (1 : Int) else bif decide (dom a b c d > (65536 : Int)) then (2 : Int) else (0 : Int)))])])) (.bad 116) : Tr AV).val = some (.tup [(false, [.v false (.int .i64 (durV a b c d ac en cr ex t))]), (false, [.v false (.int .i64 (durE a b c d ac en cr ex t))])]) := by
  show cond _ _ _ = _
  cases hb : bval a b c d ac en cr ex
  · simp only [durV, durE, hb, Bool.not_false, cond_true, cond_false, Bool.false_and]; rfl
  · by_cases h1 : t < 1
    · have h1' : ¬ (1 ≤ t) := by omega
      simp [durV, durE, hb, h1, h1', Tr.val]
    · by_cases h2 : t > 1048576
      · have h2' : ¬ (t ≤ 1048576) := by omega
        have h2'' : 1048576 < t := by omega
        have k1 : 1 ≤ t := by omega
        simp [durV, durE, hb, h1, h2', h2'', k1, Tr.val]
      · by_cases h3 : dom a b c d > 65536
        · have h3' : ¬ (dom a b c d ≤ 65536) := by omega
          have h3'' : 65536 < dom a b c d := by omega
          have h1' : 1 ≤ t := by omega
          have h2' : t ≤ 1048576 := by omega
          have k2 : ¬ (1048576 < t) := by omega
          simp [durV, durE, hb, h1, h1', h2', h3', h3'', k2, Tr.val]
        · have h3' : dom a b c d ≤ 65536 := by omega
          have h1' : 1 ≤ t := by omega
          have h2' : t ≤ 1048576 := by omega
          obtain ⟨r1, r2, r3⟩ := rdu_run (z0 := 0) (z1 := 0) hb h1' h2' rfl h3'
          have k2 : ¬ (1048576 < t) := by omega
          have k3 : ¬ (65536 < dom a b c d) := by omega
          simp [durV, durE, hb, h1, h1', h2', h3', r1, r2, r3, k2, k3, Tr.val]
noncomputable def rdr_g : List AV → Option (Tr AV)
  | [.ag [.v _ (.int .i64 a), .v _ (.int .i64 b), .v _ (.int .i64 c), .v _ (.int .i64 d), .v _ (.int .i64 ac), .v _ (.int .i64 en), .v _ (.int .i64 cr), .v _ (.int .i64 ex)], .one (.v _ (.int .i64 t))] => some (.ret (.tup [(false, [.v false (.int .i64 (durV a b c d ac en cr ex t))]), (false, [.v false (.int .i64 (durE a b c d ac en cr ex t))])]))
  | _ => none
set_option maxHeartbeats 4000000 in
theorem rdr_ok : FunOK Try.prog 11 rdr_g := by
  refine fun_ok (by kernel_rfl) (puC_S59_ok) (puE_L51_ok) 9 (On := (opens [])) (fun args t h => ?_)
  unfold rdr_g at h
  split at h
  · rename_i _ a _ b _ c _ d _ ac _ en _ cr _ ex _ t
    simp only [Option.some.injEq] at h
    subst h
    refine ⟨[.ag [.v false (.int .i64 a), .v false (.int .i64 b), .v false (.int .i64 c), .v false (.int .i64 d), .v false (.int .i64 ac), .v false (.int .i64 en), .v false (.int .i64 cr), .v false (.int .i64 ex)], .one (.v false (.int .i64 t))], rfl, fun fr w us h => h, fun r hr => ?_⟩
    simp only [Tr.val, Option.some.injEq] at hr
    subst hr
    rw [rdr_tree]
    exact rdr_val a b c d ac en cr ex t
  · cases h
noncomputable def puE_S52 : Sums := addS 11 rdr_g puC_S59
theorem puE_S52_ok : SumOK Try.prog puE_S52 := addS_ok (rdr_ok) (puC_S59_ok)
end Go.Proofs.Ythhfhiggacdneaa
