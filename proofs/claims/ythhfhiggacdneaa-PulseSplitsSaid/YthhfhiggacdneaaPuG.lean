/-
  Layer 46: PulseApart.
-/
import Derived.Test.YthhfhiggacdneaaProg
import Derived.Test.YthhfhiggacdneaaFvX
import Derived.Test.YthhfhiggacdneaaFvZ
import Derived.Test.YthhfhiggacdneaaAut
import Derived.Test.YthhfhiggacdneaaPl
import Derived.Test.YthhfhiggacdneaaSqr
import Derived.Test.YthhfhiggacdneaaPuE
import Derived.Test.YthhfhiggacdneaaPuM
import Derived.Test.YthhfhiggacdneaaPuF
namespace Go.Proofs.Ythhfhiggacdneaa
open Go
abbrev pap_U : Type := Int × Int × Int × Int × Int × Int × Int × Int × Int × Int × Int × Int × Int × Int × Int × Int × Int × Int
abbrev pap_V : Type := Bool × Int × Int × Int × Int × Int
noncomputable def pap_St (u : pap_U) (v : pap_V) : Stt := ⟨[.one .junk, .one (.v false (.int .i64 u.1)), .one (.p 0 0), .one .junk, .one (.v false (.bool v.1)), .one (.p 8 0), .one .junk, .one (.v false (.int .i64 u.2.1)), .one .junk, .one (.v false (.int .i64 v.2.1)), .one (.v false (.int .i64 v.2.2.1)), .one (.v false (.int .i64 v.2.2.2.1)), .one .junk, .one .junk, .one .junk, .one .junk, .one .junk, .one .junk, .one .junk, .one .junk, .one .junk, .one .junk, .one .junk, .one .junk, .one .junk, .one .junk, .one .junk, .one .junk, .one .junk, .one .junk, .one .junk, .one .junk, .one .junk, .one .junk, .one .junk, .one .junk, .one .junk, .one .junk, .one .junk, .one .junk, .one .junk, .one .junk, .one .junk, .one .junk, .one .junk, .one .junk, .one .junk, .one .junk, .one .junk, .one .junk, .one .junk, .one .junk, .one .junk, .one .junk, .one .junk, .one .junk, .one .junk, .one .junk, .one .junk, .one .junk, .one .junk, .one .junk, .one .junk, .one .junk, .one .junk, .one .junk, .one .junk, .one .junk, .one .junk, .one .junk, .one .junk, .one .junk, .one .junk, .one .junk, .one .junk, .one .junk, .one .junk, .one .junk, .one .junk, .one .junk, .one .junk, .one .junk, .one .junk], [(8, .cells [.v false (.int .i64 u.2.2.1), .v false (.int .i64 u.2.2.2.1), .v false (.int .i64 u.2.2.2.2.1), .v false (.int .i64 u.2.2.2.2.2.1), .v false (.int .i64 u.2.2.2.2.2.2.1), .v false (.int .i64 u.2.2.2.2.2.2.2.1), .v false (.int .i64 u.2.2.2.2.2.2.2.2.1), .v false (.int .i64 u.2.2.2.2.2.2.2.2.2.1), .v false (.int .i64 v.2.2.2.2.1), .v false (.int .i64 v.2.2.2.2.2)]), (0, .cells [.v false (.int .i64 u.2.2.2.2.2.2.2.2.2.2.1), .v false (.int .i64 u.2.2.2.2.2.2.2.2.2.2.2.1), .v false (.int .i64 u.2.2.2.2.2.2.2.2.2.2.2.2.1), .v false (.int .i64 u.2.2.2.2.2.2.2.2.2.2.2.2.2.1), .v false (.int .i64 u.2.2.2.2.2.2.2.2.2.2.2.2.2.2.1), .v false (.int .i64 u.2.2.2.2.2.2.2.2.2.2.2.2.2.2.2.1), .v false (.int .i64 u.2.2.2.2.2.2.2.2.2.2.2.2.2.2.2.2.1), .v false (.int .i64 u.2.2.2.2.2.2.2.2.2.2.2.2.2.2.2.2.2)])], 1030⟩
noncomputable def pap_step (u : pap_U) (v : pap_V) : Tr (pap_V ⊕ (Nat × pap_V)) :=
  match u, v with
  | (t, n, a, b, c, d, ac, en, cr, ex, a2, b2, c2, d2, ac2, en2, cr2, ex2), (re, stp, sn, i, dn, wt) => .br (decide (i < n)) (.br (tkP a b c d ac en cr ex dn wt t a == (0 : Int) && (tkP a b c d ac en cr ex dn wt t b == (0 : Int) && (tkP a b c d ac en cr ex dn wt t c == (0 : Int) && (tkP a b c d ac en cr ex dn wt t d == (0 : Int) && true)))) (.ret (.inl (re, stp, IntKind.wrap IntKind.i64 (sn + (1 : Int)), IntKind.wrap IntKind.i64 (i + (1 : Int)), tkD a b c d ac en cr ex dn wt t, tkW a b c d ac en cr ex dn wt t))) (.br (bif bif !(tkP a b c d ac en cr ex dn wt t a == pul a2 b2 c2 d2 (IntKind.wrap IntKind.i64 (stp + (1 : Int))) a2 && (tkP a b c d ac en cr ex dn wt t b == pul a2 b2 c2 d2 (IntKind.wrap IntKind.i64 (stp + (1 : Int))) b2 && (tkP a b c d ac en cr ex dn wt t c == pul a2 b2 c2 d2 (IntKind.wrap IntKind.i64 (stp + (1 : Int))) c2 && (tkP a b c d ac en cr ex dn wt t d == pul a2 b2 c2 d2 (IntKind.wrap IntKind.i64 (stp + (1 : Int))) d2 && true)))) then true else IntKind.wrap IntKind.i64 (sn + (1 : Int)) != ivl (sq a2 b2 c2 d2 ac2 en2 cr2 ex2 (IntKind.wrap IntKind.i64 (stp + (1 : Int)))) t then true else tkD a b c d ac en cr ex dn wt t != IntKind.wrap IntKind.i64 (stp + (1 : Int))) (.ret (.inr (0, (false, IntKind.wrap IntKind.i64 (stp + (1 : Int)), IntKind.wrap IntKind.i64 (sn + (1 : Int)), i, tkD a b c d ac en cr ex dn wt t, tkW a b c d ac en cr ex dn wt t)))) (.ret (.inl (re, IntKind.wrap IntKind.i64 (stp + (1 : Int)), 0, IntKind.wrap IntKind.i64 (i + (1 : Int)), tkD a b c d ac en cr ex dn wt t, tkW a b c d ac en cr ex dn wt t))))) (.ret (.inr (1, (re, stp, sn, i, dn, wt))))
set_option maxRecDepth 100000 in
set_option maxHeartbeats 4000000 in
theorem pap_step_eq : ∀ (u : pap_U) (v : pap_V), (evalC Try.prog (evalB Try.prog puE_S52 (opens []) puE_L51 7).1 (evalB Try.prog puE_S52 (opens []) puE_L51 7).2 (opens []) (puE_L51 7) 100000 (0 :: [0, 1, 0, 1, 1, 1, 1, 1, 1]) (loopOf (bodyOf Try.prog 7) [1, 1, 1, 1, 1, 1, 0, 1, 0]) (pap_St u v) []).bind (finF [0, 3, 6, 8, 12, 13, 14, 15, 16, 17, 18, 19, 20, 21, 22, 23, 24, 25, 26, 27, 28, 29, 30, 31, 32, 33, 34, 35, 36, 37, 38, 39, 40, 41, 42, 43, 44, 45, 46, 47, 48, 49, 50, 51, 52, 53, 54, 55, 56, 57, 58, 59, 60, 61, 62, 63, 64, 65, 66, 67, 68, 69, 70, 71, 72, 73, 74, 75, 76, 77, 78, 79, 80, 81, 82] [] [8, 0] [] 1030) = (pap_step u v).bind (outA (pap_St u) [.ret, .exit 0]) := by
  rintro ⟨t, n, a, b, c, d, ac, en, cr, ex, a2, b2, c2, d2, ac2, en2, cr2, ex2⟩ ⟨re, stp, sn, i, dn, wt⟩
  kernel_rfl
noncomputable def pap_rd (b : Bool) (o1 : Option AV) (o2 : Option AV) (o4 : Option AV) (o5 : Option AV) (o7 : Option AV) (o9 : Option AV) (o10 : Option AV) (o11 : Option AV) (own : Own) : Option (pap_U × pap_V) := zrT b <| zrO o1 fun za1 => zrA1 za1 fun zc2 => zrI .i64 zc2 fun t => zrO o2 fun za3 => zrA1 za3 fun zc4 => zrP 0 0 zc4 <| zrO o4 fun za5 => zrA1 za5 fun zc6 => zrB zc6 fun re => zrO o5 fun za7 => zrA1 za7 fun zc8 => zrP 8 0 zc8 <| zrO o7 fun za9 => zrA1 za9 fun zc10 => zrI .i64 zc10 fun n => zrO o9 fun za11 => zrA1 za11 fun zc12 => zrI .i64 zc12 fun stp => zrO o10 fun za13 => zrA1 za13 fun zc14 => zrI .i64 zc14 fun sn => zrO o11 fun za15 => zrA1 za15 fun zc16 => zrI .i64 zc16 fun i => zrL own fun zq17 zw18 => zrKey 8 zq17 fun zk19 => zrC zk19 fun zl20 => zrL zl20 fun zc21 zr22 => zrI .i64 zc21 fun a => zrL zr22 fun zc23 zr24 => zrI .i64 zc23 fun b => zrL zr24 fun zc25 zr26 => zrI .i64 zc25 fun c => zrL zr26 fun zc27 zr28 => zrI .i64 zc27 fun d => zrL zr28 fun zc29 zr30 => zrI .i64 zc29 fun ac => zrL zr30 fun zc31 zr32 => zrI .i64 zc31 fun en => zrL zr32 fun zc33 zr34 => zrI .i64 zc33 fun cr => zrL zr34 fun zc35 zr36 => zrI .i64 zc35 fun ex => zrL zr36 fun zc37 zr38 => zrI .i64 zc37 fun dn => zrL zr38 fun zc39 zr40 => zrI .i64 zc39 fun wt => zrN zr40 <| zrL zw18 fun zq41 zw42 => zrKey 0 zq41 fun zk43 => zrC zk43 fun zl44 => zrL zl44 fun zc45 zr46 => zrI .i64 zc45 fun a2 => zrL zr46 fun zc47 zr48 => zrI .i64 zc47 fun b2 => zrL zr48 fun zc49 zr50 => zrI .i64 zc49 fun c2 => zrL zr50 fun zc51 zr52 => zrI .i64 zc51 fun d2 => zrL zr52 fun zc53 zr54 => zrI .i64 zc53 fun ac2 => zrL zr54 fun zc55 zr56 => zrI .i64 zc55 fun en2 => zrL zr56 fun zc57 zr58 => zrI .i64 zc57 fun cr2 => zrL zr58 fun zc59 zr60 => zrI .i64 zc59 fun ex2 => zrN zr60 <| zrN zw42 <| some ((t, n, a, b, c, d, ac, en, cr, ex, a2, b2, c2, d2, ac2, en2, cr2, ex2), (re, stp, sn, i, dn, wt))
noncomputable def pap_can (st : Stt) : Stt := canA [0, 3, 6, 8, 12, 13, 14, 15, 16, 17, 18, 19, 20, 21, 22, 23, 24, 25, 26, 27, 28, 29, 30, 31, 32, 33, 34, 35, 36, 37, 38, 39, 40, 41, 42, 43, 44, 45, 46, 47, 48, 49, 50, 51, 52, 53, 54, 55, 56, 57, 58, 59, 60, 61, 62, 63, 64, 65, 66, 67, 68, 69, 70, 71, 72, 73, 74, 75, 76, 77, 78, 79, 80, 81, 82] [] [8, 0] [] 1030 st
noncomputable def pap_cok (st : Stt) : Bool := canAok [0, 3, 6, 8, 12, 13, 14, 15, 16, 17, 18, 19, 20, 21, 22, 23, 24, 25, 26, 27, 28, 29, 30, 31, 32, 33, 34, 35, 36, 37, 38, 39, 40, 41, 42, 43, 44, 45, 46, 47, 48, 49, 50, 51, 52, 53, 54, 55, 56, 57, 58, 59, 60, 61, 62, 63, 64, 65, 66, 67, 68, 69, 70, 71, 72, 73, 74, 75, 76, 77, 78, 79, 80, 81, 82] [] [8, 0] [] 1030 st
noncomputable def pap_read (st : Stt) : Option (pap_U × pap_V) := pap_rd (pap_cok st && (staysA [] [8, 0] st.own && juAll [0, 3, 6, 8, 12, 13, 14, 15, 16, 17, 18, 19, 20, 21, 22, 23, 24, 25, 26, 27, 28, 29, 30, 31, 32, 33, 34, 35, 36, 37, 38, 39, 40, 41, 42, 43, 44, 45, 46, 47, 48, 49, 50, 51, 52, 53, 54, 55, 56, 57, 58, 59, 60, 61, 62, 63, 64, 65, 66, 67, 68, 69, 70, 71, 72, 73, 74, 75, 76, 77, 78, 79, 80, 81, 82] (pap_can st).tm 83)) (pap_can st).tm[1]? (pap_can st).tm[2]? (pap_can st).tm[4]? (pap_can st).tm[5]? (pap_can st).tm[7]? (pap_can st).tm[9]? (pap_can st).tm[10]? (pap_can st).tm[11]? (pap_can st).own
set_option maxRecDepth 100000 in
set_option maxHeartbeats 4000000 in
theorem pap_rd_ok {b : Bool} {tm : List AV} {own : Own} {u : pap_U} {v : pap_V} (hj : b = true → juAll [0, 3, 6, 8, 12, 13, 14, 15, 16, 17, 18, 19, 20, 21, 22, 23, 24, 25, 26, 27, 28, 29, 30, 31, 32, 33, 34, 35, 36, 37, 38, 39, 40, 41, 42, 43, 44, 45, 46, 47, 48, 49, 50, 51, 52, 53, 54, 55, 56, 57, 58, 59, 60, 61, 62, 63, 64, 65, 66, 67, 68, 69, 70, 71, 72, 73, 74, 75, 76, 77, 78, 79, 80, 81, 82] tm 83 = true) (h : pap_rd b tm[1]? tm[2]? tm[4]? tm[5]? tm[7]? tm[9]? tm[10]? tm[11]? own = some (u, v)) : b = true ∧ tm = (pap_St u v).tm ∧ own = (pap_St u v).own := by
  unfold pap_rd at h
  obtain ⟨rfl, h0⟩ := zrT_some h
  obtain ⟨za1, e1, h1⟩ := zrO_some h0
  obtain ⟨zc2, rfl, h2⟩ := zrA1_some h1
  obtain ⟨t, rfl, h3⟩ := zrI_some h2
  obtain ⟨za3, e2, h4⟩ := zrO_some h3
  obtain ⟨zc4, rfl, h5⟩ := zrA1_some h4
  obtain ⟨rfl, h6⟩ := zrP_some h5
  obtain ⟨za5, e4, h7⟩ := zrO_some h6
  obtain ⟨zc6, rfl, h8⟩ := zrA1_some h7
  obtain ⟨re, rfl, h9⟩ := zrB_some h8
  obtain ⟨za7, e5, h10⟩ := zrO_some h9
  obtain ⟨zc8, rfl, h11⟩ := zrA1_some h10
  obtain ⟨rfl, h12⟩ := zrP_some h11
  obtain ⟨za9, e7, h13⟩ := zrO_some h12
  obtain ⟨zc10, rfl, h14⟩ := zrA1_some h13
  obtain ⟨n, rfl, h15⟩ := zrI_some h14
  obtain ⟨za11, e9, h16⟩ := zrO_some h15
  obtain ⟨zc12, rfl, h17⟩ := zrA1_some h16
  obtain ⟨stp, rfl, h18⟩ := zrI_some h17
  obtain ⟨za13, e10, h19⟩ := zrO_some h18
  obtain ⟨zc14, rfl, h20⟩ := zrA1_some h19
  obtain ⟨sn, rfl, h21⟩ := zrI_some h20
  obtain ⟨za15, e11, h22⟩ := zrO_some h21
  obtain ⟨zc16, rfl, h23⟩ := zrA1_some h22
  obtain ⟨i, rfl, h24⟩ := zrI_some h23
  obtain ⟨zq17, zw18, rfl, h25⟩ := zrL_some h24
  obtain ⟨zk19, rfl, h26⟩ := zrKey_some h25
  obtain ⟨zl20, rfl, h27⟩ := zrC_some h26
  obtain ⟨zc21, zr22, rfl, h28⟩ := zrL_some h27
  obtain ⟨a, rfl, h29⟩ := zrI_some h28
  obtain ⟨zc23, zr24, rfl, h30⟩ := zrL_some h29
  obtain ⟨b, rfl, h31⟩ := zrI_some h30
  obtain ⟨zc25, zr26, rfl, h32⟩ := zrL_some h31
  obtain ⟨c, rfl, h33⟩ := zrI_some h32
  obtain ⟨zc27, zr28, rfl, h34⟩ := zrL_some h33
  obtain ⟨d, rfl, h35⟩ := zrI_some h34
  obtain ⟨zc29, zr30, rfl, h36⟩ := zrL_some h35
  obtain ⟨ac, rfl, h37⟩ := zrI_some h36
  obtain ⟨zc31, zr32, rfl, h38⟩ := zrL_some h37
  obtain ⟨en, rfl, h39⟩ := zrI_some h38
  obtain ⟨zc33, zr34, rfl, h40⟩ := zrL_some h39
  obtain ⟨cr, rfl, h41⟩ := zrI_some h40
  obtain ⟨zc35, zr36, rfl, h42⟩ := zrL_some h41
  obtain ⟨ex, rfl, h43⟩ := zrI_some h42
  obtain ⟨zc37, zr38, rfl, h44⟩ := zrL_some h43
  obtain ⟨dn, rfl, h45⟩ := zrI_some h44
  obtain ⟨zc39, zr40, rfl, h46⟩ := zrL_some h45
  obtain ⟨wt, rfl, h47⟩ := zrI_some h46
  obtain ⟨rfl, h48⟩ := zrN_some h47
  obtain ⟨zq41, zw42, rfl, h49⟩ := zrL_some h48
  obtain ⟨zk43, rfl, h50⟩ := zrKey_some h49
  obtain ⟨zl44, rfl, h51⟩ := zrC_some h50
  obtain ⟨zc45, zr46, rfl, h52⟩ := zrL_some h51
  obtain ⟨a2, rfl, h53⟩ := zrI_some h52
  obtain ⟨zc47, zr48, rfl, h54⟩ := zrL_some h53
  obtain ⟨b2, rfl, h55⟩ := zrI_some h54
  obtain ⟨zc49, zr50, rfl, h56⟩ := zrL_some h55
  obtain ⟨c2, rfl, h57⟩ := zrI_some h56
  obtain ⟨zc51, zr52, rfl, h58⟩ := zrL_some h57
  obtain ⟨d2, rfl, h59⟩ := zrI_some h58
  obtain ⟨zc53, zr54, rfl, h60⟩ := zrL_some h59
  obtain ⟨ac2, rfl, h61⟩ := zrI_some h60
  obtain ⟨zc55, zr56, rfl, h62⟩ := zrL_some h61
  obtain ⟨en2, rfl, h63⟩ := zrI_some h62
  obtain ⟨zc57, zr58, rfl, h64⟩ := zrL_some h63
  obtain ⟨cr2, rfl, h65⟩ := zrI_some h64
  obtain ⟨zc59, zr60, rfl, h66⟩ := zrL_some h65
  obtain ⟨ex2, rfl, h67⟩ := zrI_some h66
  obtain ⟨rfl, h68⟩ := zrN_some h67
  obtain ⟨rfl, h69⟩ := zrN_some h68
  have h := Option.some.inj h69
  have hu := congrArg Prod.fst h
  have hv := congrArg Prod.snd h
  dsimp only at hu hv
  subst hu
  subst hv
  exact ⟨rfl, (tm_fill (hj rfl) (Lv := [(1, .one (.v false (.int .i64 t))), (2, .one (.p 0 0)), (4, .one (.v false (.bool re))), (5, .one (.p 8 0)), (7, .one (.v false (.int .i64 n))), (9, .one (.v false (.int .i64 stp))), (10, .one (.v false (.int .i64 sn))), (11, .one (.v false (.int .i64 i)))]) (by kernel_rfl) ⟨e1, e2, e4, e5, e7, e9, e10, e11, trivial⟩).trans (by kernel_rfl), rfl⟩
theorem pap_read_ok (st : Stt) (u : pap_U) (v : pap_V) (h : pap_read st = some (u, v)) : pap_cok st = true ∧ staysA [] [8, 0] st.own = true ∧ pap_can st = pap_St u v := by
  obtain ⟨h1, h2, h3⟩ := pap_rd_ok (fun hb => by rw [Bool.and_eq_true, Bool.and_eq_true] at hb; exact hb.2.2) h
  rw [Bool.and_eq_true, Bool.and_eq_true] at h1
  refine ⟨h1.1, h1.2.1, ?_⟩
  have e : pap_can st = ⟨(pap_can st).tm, (pap_can st).own, 1030⟩ := by kernel_rfl
  rw [e, h2, h3]
  rfl
noncomputable def pap_cond (u : pap_U) (v : pap_V) : Bool := runC (pap_step u) v
noncomputable def pap_g (u : pap_U) (v : pap_V) : Nat × pap_V := runG (pap_step u) v
theorem pap_hg : ∀ (u : pap_U) (v : pap_V), pap_cond u v = true → loopN (pap_step u) ((fun u v => runF (pap_step u) v) u v) v = some (pap_g u v) := by
  exact fun u v h => run_hg h
noncomputable def pap_m (st : Stt) : Option (Tr (Ex × Stt)) := sumM pap_read pap_cond pap_St pap_g [(0, .ret), (1, .exit 0)] st
noncomputable def puG_L51 : FuncId → Loops := addL 7 [0, 1, 0, 1, 1, 1, 1, 1, 1] pap_m puE_L51
set_option maxRecDepth 100000 in
set_option maxHeartbeats 4000000 in
theorem puG_L51_ok : LoopsOK Try.prog puG_L51 :=
  loop_sumF (body := (bodyOf Try.prog 7)) (c := (loopOf (bodyOf Try.prog 7) [1, 1, 1, 1, 1, 1, 0, 1, 0])) (kinds := [.ret, .exit 0]) (allow := [(0, .ret), (1, .exit 0)]) (St := pap_St) (step := pap_step) (W := [0, 3, 6, 8, 12, 13, 14, 15, 16, 17, 18, 19, 20, 21, 22, 23, 24, 25, 26, 27, 28, 29, 30, 31, 32, 33, 34, 35, 36, 37, 38, 39, 40, 41, 42, 43, 44, 45, 46, 47, 48, 49, 50, 51, 52, 53, 54, 55, 56, 57, 58, 59, 60, 61, 62, 63, 64, 65, 66, 67, 68, 69, 70, 71, 72, 73, 74, 75, 76, 77, 78, 79, 80, 81, 82]) (As := []) (ks := [8, 0]) (dd := []) (nx := 1030) (n := 100000) (g := pap_g) (cond := pap_cond) (fuel := (fun u v => runF (pap_step u) v)) (read := pap_read) (by kernel_rfl) (puE_S52_ok) (puE_L51_ok) 7 ⟨Try.f7, by kernel_rfl, by kernel_rfl⟩ (by kernel_rfl) (by kernel_rfl) (by kernel_rfl) pap_step_eq pap_hg pap_read_ok
theorem qat_dom {n i x : Int} (h : 1 ≤ n) (hx : ab x = n) (h1 : 0 ≤ i) (h2 : i ≤ n) : qat n i x = i := by
  unfold qat
  rw [cl_in h1 h2, hx]
  have : 2 * i * n + n = n + 2 * n * i := by grind
  rw [this, Int.add_mul_ediv_left _ _ (show 2 * n ≠ 0 by omega), Int.ediv_eq_zero_of_lt (by omega) (by omega)]
  omega
theorem atc_dom {n i x : Int} (h : 1 ≤ n) (hx : ab x = n) (h1 : 0 ≤ i) (h2 : i + 1 ≤ n) : atc n (i + 1) x - atc n i x ≠ 0 := by
  unfold atc
  rw [qat_dom h hx (by omega) h2, qat_dom h hx h1 (by omega)]
  cases decide (x < 0)
  · simp only [cond_false]; omega
  · simp only [cond_true]; omega
theorem pul_some {a b c d i : Int} (hv : dval a b c d = true) (h0 : 0 ≤ i) (h1 : i < dom a b c d) : (pul a b c d (i + 1) a == 0 && (pul a b c d (i + 1) b == 0 && (pul a b c d (i + 1) c == 0 && (pul a b c d (i + 1) d == 0 && true)))) = false := by
  have D := dv_ab hv
  rw [pul_eq hv h0 h1, pul_eq hv h0 h1, pul_eq hv h0 h1, pul_eq hv h0 h1]
  simp only [atv_eq hv]
  rw [← Bool.not_eq_true]
  intro h
  simp only [Bool.and_eq_true, beq_iff_eq] at h
  rcases D.2.2.2.2.2.2 with e | e | e | e
  · exact atc_dom D.1 e.symm h0 (by omega) h.1
  · exact atc_dom D.1 e.symm h0 (by omega) h.2.1
  · exact atc_dom D.1 e.symm h0 (by omega) h.2.2.1
  · exact atc_dom D.1 e.symm h0 (by omega) h.2.2.2.1
theorem pap_run {a b c d ac en cr ex t N : Int} (hs : stt a b c d ac en cr ex t = true) (hN : N = dsum a b c d ac en cr ex t (dom a b c d).toNat) (hN2 : N ≤ 3000) :
    pap_cond (t, N, a, b, c, d, ac, en, cr, ex, a, b, c, d, ac, en, cr, ex) (false, 0, 0, 0, 0, ivl (sq a b c d ac en cr ex 1) t) = true ∧ ∃ sn, pap_g (t, N, a, b, c, d, ac, en, cr, ex, a, b, c, d, ac, en, cr, ex) (false, 0, 0, 0, 0, ivl (sq a b c d ac en cr ex 1) t) = (1, (false, dom a b c d, sn, N, dom a b c d, 0)) := by
  have hb := stt_iff.1 hs
  have hv := (bv_iff.1 hb.1).1
  have D := dv_ab hv
  have hN0 : 0 ≤ N := by rw [hN]; exact (dsum_bd hb.2.1 hb.2.2 _).1
  refine run_val (step := pap_step (t, N, a, b, c, d, ac, en, cr, ex, a, b, c, d, ac, en, cr, ex)) (Inv := fun v => ∃ (k : Nat) (i wt : Int), v = (false, (k : Int), i - dsum a b c d ac en cr ex t k, i, (k : Int), wt) ∧ dsum a b c d ac en cr ex t k ≤ i ∧ MoI a b c d ac en cr ex t i k wt ∧ 0 ≤ i ∧ i ≤ N) (μ := fun v => (N - v.2.2.2.1).toNat) (Q := fun r => ∃ sn, r = (1, (false, dom a b c d, sn, N, dom a b c d, 0))) ?_ _ _ (Nat.lt_succ_self _) ⟨0, 0, _, rfl, Int.le_refl _, MoI.start hs, by omega, hN0⟩
  rintro v ⟨k, i, wt, rfl, hk, M, hi0, hi⟩
  have hL := M.le
  by_cases hin : i < N
  · have hd := M.lt hs (by rw [← hN]; exact hin)
    obtain ⟨h0, hw, hw2, T⟩ := M.tick hs hd
    have c1 : decide (i < N) = true := decide_eq_true hin
    have wi : IntKind.wrap IntKind.i64 (i + (1 : Int)) = i + 1 := wd (by omega)
    have wk : IntKind.wrap IntKind.i64 ((k : Int) + (1 : Int)) = k + 1 := wd (by omega)
    have B := dsum_bd (a := a) (b := b) (c := c) (d := d) (ac := ac) (en := en) (cr := cr) (ex := ex) hb.2.1 hb.2.2 k
    have ws : IntKind.wrap IntKind.i64 (i - dsum a b c d ac en cr ex t k + (1 : Int)) = i + 1 - dsum a b c d ac en cr ex t k := by rw [wd (by omega)]; omega
    rcases T with ⟨h2, t1, t2, t3, M2⟩ | ⟨h2, t1, t2, t3, M2⟩
    · refine ⟨.inl (false, (k : Int), i + 1 - dsum a b c d ac en cr ex t k, i + 1, (k : Int), wt - 1), ?_, ⟨k, i + 1, wt - 1, rfl, by omega, M2, by omega, by omega⟩, by show (N - (i + 1)).toNat < (N - i).toNat; omega⟩
      simp only [pap_step, Tr.val, c1, t1, t2, t3, wi, ws, cond_true, beq_self_eq_true, Bool.and_self]
    · have hz := pul_some hv h0 hd
      have hk1 : i + 1 = dsum a b c d ac en cr ex t (k + 1) := by
        obtain ⟨k', hk', _, h⟩ := M
        have : k' = k := by omega
        subst this
        rcases h with ⟨_, _, h⟩ | ⟨h, _⟩
        · omega
        · omega
      have e5 : i + 1 - dsum a b c d ac en cr ex t k = ivl (sq a b c d ac en cr ex ((k : Int) + 1)) t := by rw [hk1, dsum_succ]; omega
      refine ⟨.inl (false, (k : Int) + 1, 0, i + 1, (k : Int) + 1, ivl (sq a b c d ac en cr ex ((k : Int) + 2)) t), ?_, ⟨k + 1, i + 1, ivl (sq a b c d ac en cr ex ((k : Int) + 2)) t, ?_, by omega, ?_, by omega, by omega⟩, by show (N - (i + 1)).toNat < (N - i).toNat; omega⟩
      · simp only [pap_step, Tr.val, c1, t1, t2, t3, hz, wi, wk, ws, e5, cond_true, cond_false, beq_self_eq_true, bne_self_eq_false, Bool.and_self, Bool.not_true]
      · rw [← hk1]; push_cast; rw [Int.sub_self]
      · push_cast; exact M2
  · have he : i = N := by omega
    obtain ⟨f1, f2⟩ := M.fin hs (by rw [he, hN])
    subst he f2
    have c1 : decide (i < i) = false := decide_eq_false (by omega)
    refine ⟨.inr (1, (false, dom a b c d, i - dsum a b c d ac en cr ex t k, i, dom a b c d, 0)), ?_, ⟨_, rfl⟩⟩
    rw [← f1]
    simp only [pap_step, Tr.val, c1, cond_false]
set_option maxRecDepth 100000 in
theorem law_PulseApart_tree (a : Int) (b : Int) (c : Int) (d : Int) (ac : Int) (en : Int) (cr : Int) (ex : Int) (t : Int) : evalF Try.prog puE_S52 (opens []) puG_L51 9 7 [.ag [.v false (.int .i64 a), .v false (.int .i64 b), .v false (.int .i64 c), .v false (.int .i64 d), .v false (.int .i64 ac), .v false (.int .i64 en), .v false (.int .i64 cr), .v false (.int .i64 ex)], .one (.v false (.int .i64 t))] = .br ((bif (bif stt a b c d ac en cr ex t then (0 : Int) else (1 : Int)) != (0 : Int) then true else (bif bif durE a b c d ac en cr ex t != (0 : Int) then true else decide (durV a b c d ac en cr ex t > (3000 : Int)) then true else ((pap_cond (t, durV a b c d ac en cr ex t, bif stt a b c d ac en cr ex t then a else (0 : Int), bif stt a b c d ac en cr ex t then b else (0 : Int), bif stt a b c d ac en cr ex t then c else (0 : Int), bif stt a b c d ac en cr ex t then d else (0 : Int), bif stt a b c d ac en cr ex t then ac else (0 : Int), bif stt a b c d ac en cr ex t then en else (0 : Int), bif stt a b c d ac en cr ex t then cr else (0 : Int), bif stt a b c d ac en cr ex t then ex else (0 : Int), a, b, c, d, ac, en, cr, ex) (false, (0 : Int), (0 : Int), (0 : Int), (0 : Int), bif stt a b c d ac en cr ex t then ivl (sq a b c d ac en cr ex (1 : Int)) t else (0 : Int))) && (bif Nat.beq (Prod.fst (pap_g (t, durV a b c d ac en cr ex t, bif stt a b c d ac en cr ex t then a else (0 : Int), bif stt a b c d ac en cr ex t then b else (0 : Int), bif stt a b c d ac en cr ex t then c else (0 : Int), bif stt a b c d ac en cr ex t then d else (0 : Int), bif stt a b c d ac en cr ex t then ac else (0 : Int), bif stt a b c d ac en cr ex t then en else (0 : Int), bif stt a b c d ac en cr ex t then cr else (0 : Int), bif stt a b c d ac en cr ex t then ex else (0 : Int), a, b, c, d, ac, en, cr, ex) (false, (0 : Int), (0 : Int), (0 : Int), (0 : Int), bif stt a b c d ac en cr ex t then ivl (sq a b c d ac en cr ex (1 : Int)) t else (0 : Int)))) (0 : Nat) then true else (Nat.beq (Prod.fst (pap_g (t, durV a b c d ac en cr ex t, bif stt a b c d ac en cr ex t then a else (0 : Int), bif stt a b c d ac en cr ex t then b else (0 : Int), bif stt a b c d ac en cr ex t then c else (0 : Int), bif stt a b c d ac en cr ex t then d else (0 : Int), bif stt a b c d ac en cr ex t then ac else (0 : Int), bif stt a b c d ac en cr ex t then en else (0 : Int), bif stt a b c d ac en cr ex t then cr else (0 : Int), bif stt a b c d ac en cr ex t then ex else (0 : Int), a, b, c, d, ac, en, cr, ex) (false, (0 : Int), (0 : Int), (0 : Int), (0 : Int), bif stt a b c d ac en cr ex t then ivl (sq a b c d ac en cr ex (1 : Int)) t else (0 : Int)))) (1 : Nat))))))) (.ret (.one (.v false (.bool (bif (bif stt a b c d ac en cr ex t then (0 : Int) else (1 : Int)) != (0 : Int) then true else bif bif durE a b c d ac en cr ex t != (0 : Int) then true else decide (durV a b c d ac en cr ex t > (3000 : Int)) then true else bif Nat.beq (Prod.fst (pap_g (t, durV a b c d ac en cr ex t, bif stt a b c d ac en cr ex t then a else (0 : Int), bif stt a b c d ac en cr ex t then b else (0 : Int), bif stt a b c d ac en cr ex t then c else (0 : Int), bif stt a b c d ac en cr ex t then d else (0 : Int), bif stt a b c d ac en cr ex t then ac else (0 : Int), bif stt a b c d ac en cr ex t then en else (0 : Int), bif stt a b c d ac en cr ex t then cr else (0 : Int), bif stt a b c d ac en cr ex t then ex else (0 : Int), a, b, c, d, ac, en, cr, ex) (false, (0 : Int), (0 : Int), (0 : Int), (0 : Int), bif stt a b c d ac en cr ex t then ivl (sq a b c d ac en cr ex (1 : Int)) t else (0 : Int)))) (0 : Nat) then Prod.fst (Prod.snd (pap_g (t, durV a b c d ac en cr ex t, bif stt a b c d ac en cr ex t then a else (0 : Int), bif stt a b c d ac en cr ex t then b else (0 : Int), bif stt a b c d ac en cr ex t then c else (0 : Int), bif stt a b c d ac en cr ex t then d else (0 : Int), bif stt a b c d ac en cr ex t then ac else (0 : Int), bif stt a b c d ac en cr ex t then en else (0 : Int), bif stt a b c d ac en cr ex t then cr else (0 : Int), bif stt a b c d ac en cr ex t then ex else (0 : Int), a, b, c, d, ac, en, cr, ex) (false, (0 : Int), (0 : Int), (0 : Int), (0 : Int), bif stt a b c d ac en cr ex t then ivl (sq a b c d ac en cr ex (1 : Int)) t else (0 : Int)))) else bif Prod.fst (Prod.snd (Prod.snd (pap_g (t, durV a b c d ac en cr ex t, bif stt a b c d ac en cr ex t then a else (0 : Int), bif stt a b c d ac en cr ex t then b else (0 : Int), bif stt a b c d ac en cr ex t then c else (0 : Int), bif stt a b c d ac en cr ex t then d else (0 : Int), bif stt a b c d ac en cr ex t then ac else (0 : Int), bif stt a b c d ac en cr ex t then en else (0 : Int), bif stt a b c d ac en cr ex t then cr else (0 : Int), bif stt a b c d ac en cr ex t then ex else (0 : Int), a, b, c, d, ac, en, cr, ex) (false, (0 : Int), (0 : Int), (0 : Int), (0 : Int), bif stt a b c d ac en cr ex t then ivl (sq a b c d ac en cr ex (1 : Int)) t else (0 : Int))))) == dom a b c d then true else false))))) (.bad 116) := by kernel_rfl
set_option maxHeartbeats 4000000 in
theorem law_PulseApart_all (a : Int) (b : Int) (c : Int) (d : Int) (ac : Int) (en : Int) (cr : Int) (ex : Int) (t : Int) (r0 : Ty.InR (.prod (.prod (.int .i64) (.prod (.int .i64) (.prod (.int .i64) (.int .i64)))) (.prod (.int .i64) (.prod (.int .i64) (.prod (.int .i64) (.int .i64))))) ((a, (b, (c, d))), (ac, (en, (cr, ex))))) (l1 : -9223372036854775808 ≤ t) (g1 : t ≤ 9223372036854775807) : Tr.all (fun r => ∃ kn, r = AV.one (.v kn (.bool true))) (.br ((bif (bif stt a b c d ac en cr ex t then (0 : Int) else (1 : Int)) != (0 : Int) then true else (bif bif durE a b c d ac en cr ex t != (0 : Int) then true else decide (durV a b c d ac en cr ex t > (3000 : Int)) then true else ((pap_cond (t, durV a b c d ac en cr ex t, bif stt a b c d ac en cr ex t then a else (0 : Int), bif stt a b c d ac en cr ex t then b else (0 : Int), bif stt a b c d ac en cr ex t then c else (0 : Int), bif stt a b c d ac en cr ex t then d else (0 : Int), bif stt a b c d ac en cr ex t then ac else (0 : Int), bif stt a b c d ac en cr ex t then en else (0 : Int), bif stt a b c d ac en cr ex t then cr else (0 : Int), bif stt a b c d ac en cr ex t then ex else (0 : Int), a, b, c, d, ac, en, cr, ex) (false, (0 : Int), (0 : Int), (0 : Int), (0 : Int), bif stt a b c d ac en cr ex t then ivl (sq a b c d ac en cr ex (1 : Int)) t else (0 : Int))) && (bif Nat.beq (Prod.fst (pap_g (t, durV a b c d ac en cr ex t, bif stt a b c d ac en cr ex t then a else (0 : Int), bif stt a b c d ac en cr ex t then b else (0 : Int), bif stt a b c d ac en cr ex t then c else (0 : Int), bif stt a b c d ac en cr ex t then d else (0 : Int), bif stt a b c d ac en cr ex t then ac else (0 : Int), bif stt a b c d ac en cr ex t then en else (0 : Int), bif stt a b c d ac en cr ex t then cr else (0 : Int), bif stt a b c d ac en cr ex t then ex else (0 : Int), a, b, c, d, ac, en, cr, ex) (false, (0 : Int), (0 : Int), (0 : Int), (0 : Int), bif stt a b c d ac en cr ex t then ivl (sq a b c d ac en cr ex (1 : Int)) t else (0 : Int)))) (0 : Nat) then true else (Nat.beq (Prod.fst (pap_g (t, durV a b c d ac en cr ex t, bif stt a b c d ac en cr ex t then a else (0 : Int), bif stt a b c d ac en cr ex t then b else (0 : Int), bif stt a b c d ac en cr ex t then c else (0 : Int), bif stt a b c d ac en cr ex t then d else (0 : Int), bif stt a b c d ac en cr ex t then ac else (0 : Int), bif stt a b c d ac en cr ex t then en else (0 : Int), bif stt a b c d ac en cr ex t then cr else (0 : Int), bif stt a b c d ac en cr ex t then ex else (0 : Int), a, b, c, d, ac, en, cr, ex) (false, (0 : Int), (0 : Int), (0 : Int), (0 : Int), bif stt a b c d ac en cr ex t then ivl (sq a b c d ac en cr ex (1 : Int)) t else (0 : Int)))) (1 : Nat))))))) (.ret (.one (.v false (.bool (bif (bif stt a b c d ac en cr ex t then (0 : Int) else (1 : Int)) != (0 : Int) then true else bif bif durE a b c d ac en cr ex t != (0 : Int) then true else decide (durV a b c d ac en cr ex t > (3000 : Int)) then true else bif Nat.beq (Prod.fst (pap_g (t, durV a b c d ac en cr ex t, bif stt a b c d ac en cr ex t then a else (0 : Int), bif stt a b c d ac en cr ex t then b else (0 : Int), bif stt a b c d ac en cr ex t then c else (0 : Int), bif stt a b c d ac en cr ex t then d else (0 : Int), bif stt a b c d ac en cr ex t then ac else (0 : Int), bif stt a b c d ac en cr ex t then en else (0 : Int), bif stt a b c d ac en cr ex t then cr else (0 : Int), bif stt a b c d ac en cr ex t then ex else (0 : Int), a, b, c, d, ac, en, cr, ex) (false, (0 : Int), (0 : Int), (0 : Int), (0 : Int), bif stt a b c d ac en cr ex t then ivl (sq a b c d ac en cr ex (1 : Int)) t else (0 : Int)))) (0 : Nat) then Prod.fst (Prod.snd (pap_g (t, durV a b c d ac en cr ex t, bif stt a b c d ac en cr ex t then a else (0 : Int), bif stt a b c d ac en cr ex t then b else (0 : Int), bif stt a b c d ac en cr ex t then c else (0 : Int), bif stt a b c d ac en cr ex t then d else (0 : Int), bif stt a b c d ac en cr ex t then ac else (0 : Int), bif stt a b c d ac en cr ex t then en else (0 : Int), bif stt a b c d ac en cr ex t then cr else (0 : Int), bif stt a b c d ac en cr ex t then ex else (0 : Int), a, b, c, d, ac, en, cr, ex) (false, (0 : Int), (0 : Int), (0 : Int), (0 : Int), bif stt a b c d ac en cr ex t then ivl (sq a b c d ac en cr ex (1 : Int)) t else (0 : Int)))) else bif Prod.fst (Prod.snd (Prod.snd (pap_g (t, durV a b c d ac en cr ex t, bif stt a b c d ac en cr ex t then a else (0 : Int), bif stt a b c d ac en cr ex t then b else (0 : Int), bif stt a b c d ac en cr ex t then c else (0 : Int), bif stt a b c d ac en cr ex t then d else (0 : Int), bif stt a b c d ac en cr ex t then ac else (0 : Int), bif stt a b c d ac en cr ex t then en else (0 : Int), bif stt a b c d ac en cr ex t then cr else (0 : Int), bif stt a b c d ac en cr ex t then ex else (0 : Int), a, b, c, d, ac, en, cr, ex) (false, (0 : Int), (0 : Int), (0 : Int), (0 : Int), bif stt a b c d ac en cr ex t then ivl (sq a b c d ac en cr ex (1 : Int)) t else (0 : Int))))) == dom a b c d then true else false))))) (.bad 116)) := by
  show (_ = true → _) ∧ (_ = false → _)
  cases hs : stt a b c d ac en cr ex t
  · refine ⟨fun _ => ⟨false, by simp⟩, fun h => by simp at h⟩
  · by_cases hE : durE a b c d ac en cr ex t = 0 ∧ durV a b c d ac en cr ex t ≤ 3000
    · have hN := dur_eq hs hE.1
      obtain ⟨r1, sn, r2⟩ := pap_run hs hN hE.2
      have c1 : (durE a b c d ac en cr ex t != 0) = false := by rw [hE.1]; rfl
      have c2 : decide (durV a b c d ac en cr ex t > 3000) = false := decide_eq_false (by omega)
      simp only [cond_true, r1, r2, c1, c2, Nat.beq]
      refine ⟨fun _ => ⟨false, by simp⟩, fun h => by simp at h⟩
    · have c1 : (bif durE a b c d ac en cr ex t != 0 then true else decide (durV a b c d ac en cr ex t > 3000)) = true := by
        cases hq : durE a b c d ac en cr ex t != 0
        · have : durE a b c d ac en cr ex t = 0 := by simpa using hq
          exact decide_eq_true (by omega)
        · rfl
      simp only [cond_true, c1]
      refine ⟨fun _ => ⟨false, by simp⟩, fun h => by simp at h⟩
set_option maxHeartbeats 4000000 in
theorem law_PulseApart (v0 : Value) (x0 : ((.prod (.prod (.int .i64) (.prod (.int .i64) (.prod (.int .i64) (.int .i64)))) (.prod (.int .i64) (.prod (.int .i64) (.prod (.int .i64) (.int .i64))))) : Ty).den) (r0 : Ty.InR (.prod (.prod (.int .i64) (.prod (.int .i64) (.prod (.int .i64) (.int .i64)))) (.prod (.int .i64) (.prod (.int .i64) (.prod (.int .i64) (.int .i64))))) x0) (t : Int) (l1 : -9223372036854775808 ≤ t) (g1 : t ≤ 9223372036854775807) (z_w : World) (i0 : (AV.ag (Ty.cells false (.prod (.prod (.int .i64) (.prod (.int .i64) (.prod (.int .i64) (.int .i64)))) (.prod (.int .i64) (.prod (.int .i64) (.prod (.int .i64) (.int .i64))))) x0)).is [] (fun _ => none) (fun b => b < z_w.heap.size) z_w v0) : Calls Try.prog 7 #[v0, .int .i64 t] z_w fun e w' => e = .returned (.bool true) ∧ Ext z_w w' := by
  obtain ⟨⟨a, ⟨b, ⟨c, d⟩⟩⟩, ⟨ac, ⟨en, ⟨cr, ex⟩⟩⟩⟩ := x0
  refine law_of_tree (by kernel_rfl) (puE_S52_ok) (puG_L51_ok) (law_PulseApart_tree a b c d ac en cr ex t) (law_PulseApart_all a b c d ac en cr ex t r0 l1 g1) rfl z_w _ _ (fun _ h => h) ⟨_, _, rfl, i0, ⟨_, _, rfl, rfl, rfl⟩⟩
end Go.Proofs.Ythhfhiggacdneaa
