/-
  Layer 50: GuardRises.
-/
import Derived.Test.YtnmjikaojoaaaaaProg
import Derived.Test.YtnmjikaojoaaaaaFvX
import Derived.Test.YtnmjikaojoaaaaaFvZ
import Derived.Test.YtnmjikaojoaaaaaGwB
namespace Go.Proofs.Ytnmjikaojoaaaaa
open Go
abbrev gri_U : Type := (Ty.list (.prod (.int .i64) (.prod (.int .i64) (.prod (.int .i64) (.int .i64))))).den × Int × Int × Int × Int × Int × Int × Bool
abbrev gri_V : Type := Bool × Int × Int × Int × Int × Int × Int × Int
def gri_St (u : gri_U) (v : gri_V) : Stt := ⟨[.one .junk, .one (.d false false (.prod (.int .i64) (.prod (.int .i64) (.prod (.int .i64) (.int .i64)))) u.1), .one (.p 0 0), .one .junk, .one (.v false (.bool v.1)), .one (.v false (.int .i64 v.2.1)), .one (.v false (.int .i64 v.2.2.1)), .one (.v false (.int .i64 v.2.2.2.1)), .one .junk, .one .junk, .one .junk, .one .junk, .one .junk, .one .junk, .one .junk, .one .junk, .one .junk, .one .junk, .one .junk, .one .junk, .one .junk, .one .junk, .one .junk, .one .junk, .one .junk, .one .junk, .one .junk, .one .junk, .one .junk, .one .junk, .one .junk, .one .junk, .one .junk, .one .junk, .one .junk, .one .junk, .one .junk, .one .junk, .one .junk, .one .junk, .one .junk, .one .junk, .one .junk, .one .junk, .one .junk, .one .junk, .one .junk, .one .junk, .one .junk, .one .junk, .one .junk, .one .junk, .one .junk, .one .junk, .one .junk, .one .junk, .one .junk, .one .junk, .one .junk, .one .junk, .one .junk, .one .junk, .one .junk, .one .junk, .one .junk, .one .junk, .one .junk, .one .junk, .one .junk, .one .junk, .one .junk, .one .junk, .one .junk, .one .junk, .one .junk, .one .junk, .one .junk, .one .junk, .one .junk, .one .junk, .one .junk, .one .junk, .one .junk, .one .junk, .one .junk, .one .junk, .one .junk, .one .junk, .one .junk, .one .junk, .one .junk, .one .junk, .one .junk, .one .junk, .one .junk, .one .junk, .one .junk, .one .junk, .one .junk, .one .junk, .one .junk, .one .junk, .one .junk, .one .junk, .one .junk], [(0, .cells [.v false (.int .i64 u.2.1), .v false (.int .i64 u.2.2.1), .v false (.int .i64 u.2.2.2.1), .v false (.int .i64 u.2.2.2.2.1), .v false (.int .i64 u.2.2.2.2.2.1), .v false (.int .i64 v.2.2.2.2.1), .v false (.int .i64 v.2.2.2.2.2.1), .v false (.int .i64 u.2.2.2.2.2.2.1), .v false (.int .i64 v.2.2.2.2.2.2.1), .v false (.int .i64 v.2.2.2.2.2.2.2), .v false (.bool u.2.2.2.2.2.2.2)])], 1015⟩
def el_iiii (l : (Ty.list (Ty.prod (Ty.int IntKind.i64) (Ty.prod (Ty.int IntKind.i64) (Ty.prod (Ty.int IntKind.i64) (Ty.int IntKind.i64))))).den) (i : Int) : (Int × (Int × (Int × Int))) := elm (Ty.prod (Ty.int IntKind.i64) (Ty.prod (Ty.int IntKind.i64) (Ty.prod (Ty.int IntKind.i64) (Ty.int IntKind.i64)))) l i
def gri_step (u : gri_U) (v : gri_V) : Tr (gri_V ⊕ (Nat × gri_V)) :=
  match u, v with
  | (l, lo, hi, wa, ri, ba, id, dr), (re, base, n, i, bs, co, qu, fa) => .br (bif decide (i < ↑(List.length l)) then decide (i < (40 : Int)) else false) (.br (decide ((0 : Int) ≤ i) && decide (i < ↑(List.length l))) (.br (bif decide (Prod.fst (Prod.snd (Prod.snd (el_iiii l i))) < (-1000000 : Int)) then true else decide (Prod.fst (Prod.snd (Prod.snd (el_iiii l i))) > (1000000 : Int))) (.ret (.inr (0, (true, base, n, i, bs, co, qu, fa)))) (.br (step3 lo hi wa ri ba bs co id qu fa dr (Prod.fst (Prod.snd (el_iiii l i))) (Prod.fst (Prod.snd (Prod.snd (el_iiii l i)))) (Prod.snd (Prod.snd (Prod.snd (el_iiii l i)))) != (0 : Int)) (.ret (.inr (0, (bif step4 lo hi wa ri ba bs co id qu fa dr (Prod.fst (Prod.snd (el_iiii l i))) (Prod.fst (Prod.snd (Prod.snd (el_iiii l i)))) (Prod.snd (Prod.snd (Prod.snd (el_iiii l i)))) == (0 : Int) then true else false, base, n, i, step0 lo hi wa ri ba bs co id qu fa dr (Prod.fst (Prod.snd (el_iiii l i))) (Prod.fst (Prod.snd (Prod.snd (el_iiii l i)))) (Prod.snd (Prod.snd (Prod.snd (el_iiii l i)))), step1 lo hi wa ri ba bs co id qu fa dr (Prod.fst (Prod.snd (el_iiii l i))) (Prod.fst (Prod.snd (Prod.snd (el_iiii l i)))) (Prod.snd (Prod.snd (Prod.snd (el_iiii l i)))), step2 lo hi wa ri ba bs co id qu fa dr (Prod.fst (Prod.snd (el_iiii l i))) (Prod.fst (Prod.snd (Prod.snd (el_iiii l i)))) (Prod.snd (Prod.snd (Prod.snd (el_iiii l i)))), step3 lo hi wa ri ba bs co id qu fa dr (Prod.fst (Prod.snd (el_iiii l i))) (Prod.fst (Prod.snd (Prod.snd (el_iiii l i)))) (Prod.snd (Prod.snd (Prod.snd (el_iiii l i)))))))) (.br (bif bif step4 lo hi wa ri ba bs co id qu fa dr (Prod.fst (Prod.snd (el_iiii l i))) (Prod.fst (Prod.snd (Prod.snd (el_iiii l i)))) (Prod.snd (Prod.snd (Prod.snd (el_iiii l i)))) == (0 : Int) then true else decide (Prod.fst (Prod.snd (el_iiii l i)) ≥ IntKind.wrap IntKind.i64 (Prod.fst (Prod.snd (Prod.snd (el_iiii l i))) - ba)) then true else decide (Prod.fst (Prod.snd (el_iiii l i)) ≥ IntKind.wrap IntKind.i64 (base + ri))) (.br (bif decide (step4 lo hi wa ri ba bs co id qu fa dr (Prod.fst (Prod.snd (el_iiii l i))) (Prod.fst (Prod.snd (Prod.snd (el_iiii l i)))) (Prod.snd (Prod.snd (Prod.snd (el_iiii l i)))) > (0 : Int)) then decide (Prod.fst (Prod.snd (el_iiii l i)) < IntKind.wrap IntKind.i64 (Prod.fst (Prod.snd (Prod.snd (el_iiii l i))) - ba)) else false) (.br (decide (IntKind.wrap IntKind.i64 ((0 : Int) + (1 : Int)) ≥ wa)) (.ret (.inr (0, (false, Prod.fst (Prod.snd (el_iiii l i)), 1, i, step0 lo hi wa ri ba bs co id qu fa dr (Prod.fst (Prod.snd (el_iiii l i))) (Prod.fst (Prod.snd (Prod.snd (el_iiii l i)))) (Prod.snd (Prod.snd (Prod.snd (el_iiii l i)))), step1 lo hi wa ri ba bs co id qu fa dr (Prod.fst (Prod.snd (el_iiii l i))) (Prod.fst (Prod.snd (Prod.snd (el_iiii l i)))) (Prod.snd (Prod.snd (Prod.snd (el_iiii l i)))), step2 lo hi wa ri ba bs co id qu fa dr (Prod.fst (Prod.snd (el_iiii l i))) (Prod.fst (Prod.snd (Prod.snd (el_iiii l i)))) (Prod.snd (Prod.snd (Prod.snd (el_iiii l i)))), step3 lo hi wa ri ba bs co id qu fa dr (Prod.fst (Prod.snd (el_iiii l i))) (Prod.fst (Prod.snd (Prod.snd (el_iiii l i)))) (Prod.snd (Prod.snd (Prod.snd (el_iiii l i)))))))) (.ret (.inl (re, Prod.fst (Prod.snd (el_iiii l i)), 1, IntKind.wrap IntKind.i64 (i + (1 : Int)), step0 lo hi wa ri ba bs co id qu fa dr (Prod.fst (Prod.snd (el_iiii l i))) (Prod.fst (Prod.snd (Prod.snd (el_iiii l i)))) (Prod.snd (Prod.snd (Prod.snd (el_iiii l i)))), step1 lo hi wa ri ba bs co id qu fa dr (Prod.fst (Prod.snd (el_iiii l i))) (Prod.fst (Prod.snd (Prod.snd (el_iiii l i)))) (Prod.snd (Prod.snd (Prod.snd (el_iiii l i)))), step2 lo hi wa ri ba bs co id qu fa dr (Prod.fst (Prod.snd (el_iiii l i))) (Prod.fst (Prod.snd (Prod.snd (el_iiii l i)))) (Prod.snd (Prod.snd (Prod.snd (el_iiii l i)))), step3 lo hi wa ri ba bs co id qu fa dr (Prod.fst (Prod.snd (el_iiii l i))) (Prod.fst (Prod.snd (Prod.snd (el_iiii l i)))) (Prod.snd (Prod.snd (Prod.snd (el_iiii l i)))))))) (.br (decide ((0 : Int) ≥ wa)) (.ret (.inr (0, (false, Prod.fst (Prod.snd (el_iiii l i)), 0, i, step0 lo hi wa ri ba bs co id qu fa dr (Prod.fst (Prod.snd (el_iiii l i))) (Prod.fst (Prod.snd (Prod.snd (el_iiii l i)))) (Prod.snd (Prod.snd (Prod.snd (el_iiii l i)))), step1 lo hi wa ri ba bs co id qu fa dr (Prod.fst (Prod.snd (el_iiii l i))) (Prod.fst (Prod.snd (Prod.snd (el_iiii l i)))) (Prod.snd (Prod.snd (Prod.snd (el_iiii l i)))), step2 lo hi wa ri ba bs co id qu fa dr (Prod.fst (Prod.snd (el_iiii l i))) (Prod.fst (Prod.snd (Prod.snd (el_iiii l i)))) (Prod.snd (Prod.snd (Prod.snd (el_iiii l i)))), step3 lo hi wa ri ba bs co id qu fa dr (Prod.fst (Prod.snd (el_iiii l i))) (Prod.fst (Prod.snd (Prod.snd (el_iiii l i)))) (Prod.snd (Prod.snd (Prod.snd (el_iiii l i)))))))) (.ret (.inl (re, Prod.fst (Prod.snd (el_iiii l i)), 0, IntKind.wrap IntKind.i64 (i + (1 : Int)), step0 lo hi wa ri ba bs co id qu fa dr (Prod.fst (Prod.snd (el_iiii l i))) (Prod.fst (Prod.snd (Prod.snd (el_iiii l i)))) (Prod.snd (Prod.snd (Prod.snd (el_iiii l i)))), step1 lo hi wa ri ba bs co id qu fa dr (Prod.fst (Prod.snd (el_iiii l i))) (Prod.fst (Prod.snd (Prod.snd (el_iiii l i)))) (Prod.snd (Prod.snd (Prod.snd (el_iiii l i)))), step2 lo hi wa ri ba bs co id qu fa dr (Prod.fst (Prod.snd (el_iiii l i))) (Prod.fst (Prod.snd (Prod.snd (el_iiii l i)))) (Prod.snd (Prod.snd (Prod.snd (el_iiii l i)))), step3 lo hi wa ri ba bs co id qu fa dr (Prod.fst (Prod.snd (el_iiii l i))) (Prod.fst (Prod.snd (Prod.snd (el_iiii l i)))) (Prod.snd (Prod.snd (Prod.snd (el_iiii l i))))))))) (.br (bif decide (step4 lo hi wa ri ba bs co id qu fa dr (Prod.fst (Prod.snd (el_iiii l i))) (Prod.fst (Prod.snd (Prod.snd (el_iiii l i)))) (Prod.snd (Prod.snd (Prod.snd (el_iiii l i)))) > (0 : Int)) then decide (Prod.fst (Prod.snd (el_iiii l i)) < IntKind.wrap IntKind.i64 (Prod.fst (Prod.snd (Prod.snd (el_iiii l i))) - ba)) else false) (.br (decide (IntKind.wrap IntKind.i64 (n + (1 : Int)) ≥ wa)) (.ret (.inr (0, (false, base, IntKind.wrap IntKind.i64 (n + (1 : Int)), i, step0 lo hi wa ri ba bs co id qu fa dr (Prod.fst (Prod.snd (el_iiii l i))) (Prod.fst (Prod.snd (Prod.snd (el_iiii l i)))) (Prod.snd (Prod.snd (Prod.snd (el_iiii l i)))), step1 lo hi wa ri ba bs co id qu fa dr (Prod.fst (Prod.snd (el_iiii l i))) (Prod.fst (Prod.snd (Prod.snd (el_iiii l i)))) (Prod.snd (Prod.snd (Prod.snd (el_iiii l i)))), step2 lo hi wa ri ba bs co id qu fa dr (Prod.fst (Prod.snd (el_iiii l i))) (Prod.fst (Prod.snd (Prod.snd (el_iiii l i)))) (Prod.snd (Prod.snd (Prod.snd (el_iiii l i)))), step3 lo hi wa ri ba bs co id qu fa dr (Prod.fst (Prod.snd (el_iiii l i))) (Prod.fst (Prod.snd (Prod.snd (el_iiii l i)))) (Prod.snd (Prod.snd (Prod.snd (el_iiii l i)))))))) (.ret (.inl (re, base, IntKind.wrap IntKind.i64 (n + (1 : Int)), IntKind.wrap IntKind.i64 (i + (1 : Int)), step0 lo hi wa ri ba bs co id qu fa dr (Prod.fst (Prod.snd (el_iiii l i))) (Prod.fst (Prod.snd (Prod.snd (el_iiii l i)))) (Prod.snd (Prod.snd (Prod.snd (el_iiii l i)))), step1 lo hi wa ri ba bs co id qu fa dr (Prod.fst (Prod.snd (el_iiii l i))) (Prod.fst (Prod.snd (Prod.snd (el_iiii l i)))) (Prod.snd (Prod.snd (Prod.snd (el_iiii l i)))), step2 lo hi wa ri ba bs co id qu fa dr (Prod.fst (Prod.snd (el_iiii l i))) (Prod.fst (Prod.snd (Prod.snd (el_iiii l i)))) (Prod.snd (Prod.snd (Prod.snd (el_iiii l i)))), step3 lo hi wa ri ba bs co id qu fa dr (Prod.fst (Prod.snd (el_iiii l i))) (Prod.fst (Prod.snd (Prod.snd (el_iiii l i)))) (Prod.snd (Prod.snd (Prod.snd (el_iiii l i)))))))) (.br (decide (n ≥ wa)) (.ret (.inr (0, (false, base, n, i, step0 lo hi wa ri ba bs co id qu fa dr (Prod.fst (Prod.snd (el_iiii l i))) (Prod.fst (Prod.snd (Prod.snd (el_iiii l i)))) (Prod.snd (Prod.snd (Prod.snd (el_iiii l i)))), step1 lo hi wa ri ba bs co id qu fa dr (Prod.fst (Prod.snd (el_iiii l i))) (Prod.fst (Prod.snd (Prod.snd (el_iiii l i)))) (Prod.snd (Prod.snd (Prod.snd (el_iiii l i)))), step2 lo hi wa ri ba bs co id qu fa dr (Prod.fst (Prod.snd (el_iiii l i))) (Prod.fst (Prod.snd (Prod.snd (el_iiii l i)))) (Prod.snd (Prod.snd (Prod.snd (el_iiii l i)))), step3 lo hi wa ri ba bs co id qu fa dr (Prod.fst (Prod.snd (el_iiii l i))) (Prod.fst (Prod.snd (Prod.snd (el_iiii l i)))) (Prod.snd (Prod.snd (Prod.snd (el_iiii l i)))))))) (.ret (.inl (re, base, n, IntKind.wrap IntKind.i64 (i + (1 : Int)), step0 lo hi wa ri ba bs co id qu fa dr (Prod.fst (Prod.snd (el_iiii l i))) (Prod.fst (Prod.snd (Prod.snd (el_iiii l i)))) (Prod.snd (Prod.snd (Prod.snd (el_iiii l i)))), step1 lo hi wa ri ba bs co id qu fa dr (Prod.fst (Prod.snd (el_iiii l i))) (Prod.fst (Prod.snd (Prod.snd (el_iiii l i)))) (Prod.snd (Prod.snd (Prod.snd (el_iiii l i)))), step2 lo hi wa ri ba bs co id qu fa dr (Prod.fst (Prod.snd (el_iiii l i))) (Prod.fst (Prod.snd (Prod.snd (el_iiii l i)))) (Prod.snd (Prod.snd (Prod.snd (el_iiii l i)))), step3 lo hi wa ri ba bs co id qu fa dr (Prod.fst (Prod.snd (el_iiii l i))) (Prod.fst (Prod.snd (Prod.snd (el_iiii l i)))) (Prod.snd (Prod.snd (Prod.snd (el_iiii l i)))))))))))) (.bad 29)) (.ret (.inr (1, (re, base, n, i, bs, co, qu, fa))))
set_option maxRecDepth 100000 in
set_option maxHeartbeats 4000000 in
theorem gri_step_eq : ∀ (u : gri_U) (v : gri_V), (evalC Try.prog (evalB Try.prog gwB_S10 (opens []) L0 7).1 (evalB Try.prog gwB_S10 (opens []) L0 7).2 (opens []) (L0 12) 100000 (0 :: [0, 1, 0, 1, 1, 1, 1]) (loopOf (bodyOf Try.prog 12) [1, 1, 1, 1, 0, 1, 0]) (gri_St u v) []).bind (finF [0, 3, 8, 9, 10, 11, 12, 13, 14, 15, 16, 17, 18, 19, 20, 21, 22, 23, 24, 25, 26, 27, 28, 29, 30, 31, 32, 33, 34, 35, 36, 37, 38, 39, 40, 41, 42, 43, 44, 45, 46, 47, 48, 49, 50, 51, 52, 53, 54, 55, 56, 57, 58, 59, 60, 61, 62, 63, 64, 65, 66, 67, 68, 69, 70, 71, 72, 73, 74, 75, 76, 77, 78, 79, 80, 81, 82, 83, 84, 85, 86, 87, 88, 89, 90, 91, 92, 93, 94, 95, 96, 97, 98, 99, 100, 101, 102, 103, 104] [] [0] [] 1015) = (gri_step u v).bind (outA (gri_St u) [.ret, .exit 0]) := by
  rintro ⟨l, lo, hi, wa, ri, ba, id, dr⟩ ⟨re, base, n, i, bs, co, qu, fa⟩
  kernel_rfl
def gri_rd (b : Bool) (tm : List (Option AV)) (own : Own) : Option (gri_U × gri_V) :=
  match b, tm, own with
  | true, [some (.one (.d false false (.prod (.int .i64) (.prod (.int .i64) (.prod (.int .i64) (.int .i64)))) l)), some (.one (.p 0 0)), some (.one (.v false (.bool re))), some (.one (.v false (.int .i64 base))), some (.one (.v false (.int .i64 n))), some (.one (.v false (.int .i64 i)))], [(0, .cells [.v false (.int .i64 lo), .v false (.int .i64 hi), .v false (.int .i64 wa), .v false (.int .i64 ri), .v false (.int .i64 ba), .v false (.int .i64 bs), .v false (.int .i64 co), .v false (.int .i64 id), .v false (.int .i64 qu), .v false (.int .i64 fa), .v false (.bool dr)])] => some ((l, lo, hi, wa, ri, ba, id, dr), (re, base, n, i, bs, co, qu, fa))
  | _, _, _ => none
def gri_can (st : Stt) : Stt := canA [0, 3, 8, 9, 10, 11, 12, 13, 14, 15, 16, 17, 18, 19, 20, 21, 22, 23, 24, 25, 26, 27, 28, 29, 30, 31, 32, 33, 34, 35, 36, 37, 38, 39, 40, 41, 42, 43, 44, 45, 46, 47, 48, 49, 50, 51, 52, 53, 54, 55, 56, 57, 58, 59, 60, 61, 62, 63, 64, 65, 66, 67, 68, 69, 70, 71, 72, 73, 74, 75, 76, 77, 78, 79, 80, 81, 82, 83, 84, 85, 86, 87, 88, 89, 90, 91, 92, 93, 94, 95, 96, 97, 98, 99, 100, 101, 102, 103, 104] [] [0] [] 1015 st
def gri_cok (st : Stt) : Bool := canAok [0, 3, 8, 9, 10, 11, 12, 13, 14, 15, 16, 17, 18, 19, 20, 21, 22, 23, 24, 25, 26, 27, 28, 29, 30, 31, 32, 33, 34, 35, 36, 37, 38, 39, 40, 41, 42, 43, 44, 45, 46, 47, 48, 49, 50, 51, 52, 53, 54, 55, 56, 57, 58, 59, 60, 61, 62, 63, 64, 65, 66, 67, 68, 69, 70, 71, 72, 73, 74, 75, 76, 77, 78, 79, 80, 81, 82, 83, 84, 85, 86, 87, 88, 89, 90, 91, 92, 93, 94, 95, 96, 97, 98, 99, 100, 101, 102, 103, 104] [] [0] [] 1015 st
def gri_read (st : Stt) : Option (gri_U × gri_V) := gri_rd (gri_cok st && (staysA [] [0] st.own && juAll [0, 3, 8, 9, 10, 11, 12, 13, 14, 15, 16, 17, 18, 19, 20, 21, 22, 23, 24, 25, 26, 27, 28, 29, 30, 31, 32, 33, 34, 35, 36, 37, 38, 39, 40, 41, 42, 43, 44, 45, 46, 47, 48, 49, 50, 51, 52, 53, 54, 55, 56, 57, 58, 59, 60, 61, 62, 63, 64, 65, 66, 67, 68, 69, 70, 71, 72, 73, 74, 75, 76, 77, 78, 79, 80, 81, 82, 83, 84, 85, 86, 87, 88, 89, 90, 91, 92, 93, 94, 95, 96, 97, 98, 99, 100, 101, 102, 103, 104] (gri_can st).tm 105)) [(gri_can st).tm[1]?, (gri_can st).tm[2]?, (gri_can st).tm[4]?, (gri_can st).tm[5]?, (gri_can st).tm[6]?, (gri_can st).tm[7]?] (gri_can st).own
set_option maxRecDepth 100000 in
set_option maxHeartbeats 4000000 in
theorem gri_rd_ok {b : Bool} {tm : List AV} {own : Own} {u : gri_U} {v : gri_V} (hj : b = true → juAll [0, 3, 8, 9, 10, 11, 12, 13, 14, 15, 16, 17, 18, 19, 20, 21, 22, 23, 24, 25, 26, 27, 28, 29, 30, 31, 32, 33, 34, 35, 36, 37, 38, 39, 40, 41, 42, 43, 44, 45, 46, 47, 48, 49, 50, 51, 52, 53, 54, 55, 56, 57, 58, 59, 60, 61, 62, 63, 64, 65, 66, 67, 68, 69, 70, 71, 72, 73, 74, 75, 76, 77, 78, 79, 80, 81, 82, 83, 84, 85, 86, 87, 88, 89, 90, 91, 92, 93, 94, 95, 96, 97, 98, 99, 100, 101, 102, 103, 104] tm 105 = true) (h : gri_rd b [tm[1]?, tm[2]?, tm[4]?, tm[5]?, tm[6]?, tm[7]?] own = some (u, v)) : b = true ∧ tm = (gri_St u v).tm ∧ own = (gri_St u v).own := by
  unfold gri_rd at h
  split at h
  · rename_i l re base n i lo hi wa ri ba bs co id qu fa dr ht
    simp only [List.cons.injEq, and_true] at ht
    cases h
    refine ⟨rfl, (tm_fill (hj rfl) (Lv := [(1, .one (.d false false (.prod (.int .i64) (.prod (.int .i64) (.prod (.int .i64) (.int .i64)))) l)), (2, .one (.p 0 0)), (4, .one (.v false (.bool re))), (5, .one (.v false (.int .i64 base))), (6, .one (.v false (.int .i64 n))), (7, .one (.v false (.int .i64 i)))]) (by kernel_rfl) (by simp only [allGet, ht, and_true])).trans (by kernel_rfl), rfl⟩
  · cases h
theorem gri_read_ok (st : Stt) (u : gri_U) (v : gri_V) (h : gri_read st = some (u, v)) : gri_cok st = true ∧ staysA [] [0] st.own = true ∧ gri_can st = gri_St u v := by
  obtain ⟨h1, h2, h3⟩ := gri_rd_ok (fun hb => by rw [Bool.and_eq_true, Bool.and_eq_true] at hb; exact hb.2.2) h
  rw [Bool.and_eq_true, Bool.and_eq_true] at h1
  refine ⟨h1.1, h1.2.1, ?_⟩
  have e : gri_can st = ⟨(gri_can st).tm, (gri_can st).own, 1015⟩ := by kernel_rfl
  rw [e, h2, h3]
  rfl
def gri_cond (u : gri_U) (v : gri_V) : Bool :=
  match u, v with
  | (l, lo, hi, wa, ri, ba, id, dr), (re, base, n, i, bs, co, qu, fa) => gv0 lo hi wa ri ba bs co id qu fa dr && (decide (base = bs) && (decide (n = co) && (decide (0 ≤ i) && decide (i ≤ 40))))
def gri_mu (u : gri_U) (v : gri_V) : Nat :=
  match u, v with
  | (l, lo, hi, wa, ri, ba, id, dr), (re, base, n, i, bs, co, qu, fa) => (40 - i).toNat
def gri_g (u : gri_U) (v : gri_V) : Nat × gri_V := loopG (gri_step u) (fun v => gri_mu u v + 1) v
def gri_Q (u : gri_U) (v : gri_V) (t : Nat × gri_V) : Prop :=
  match u, v, t with
  | (l, lo, hi, wa, ri, ba, id, dr), (re, base, n, i, bs, co, qu, fa), (k, (re', base', n', i', bs', co', qu', fa')) => k = 1 ∨ (k = 0 ∧ re' = true)
set_option maxHeartbeats 4000000 in
theorem gri_round (u0 : gri_U) (v0 : gri_V) : ∀ (v : gri_V), (gri_cond u0 v = true ∧ (∀ t, gri_Q u0 v t → gri_Q u0 v0 t)) → (gri_step u0 v).all (fun x => match x with | .inl s' => (gri_cond u0 s' = true ∧ (∀ t, gri_Q u0 s' t → gri_Q u0 v0 t)) ∧ gri_mu u0 s' < gri_mu u0 v | .inr t => gri_Q u0 v0 t) := by
  suffices H : ∀ (u : gri_U) (v : gri_V), gri_cond u v = true → (gri_step u v).all (fun x => match x with | .inl s' => (gri_cond u s' = true ∧ (∀ t, gri_Q u s' t → gri_Q u v t)) ∧ gri_mu u s' < gri_mu u v | .inr t => gri_Q u v t) by
    intro v h
    refine (H u0 v h.1).mono fun x hx => ?_
    cases x with
    | inl s' => exact ⟨⟨hx.1.1, fun t ht => h.2 t (hx.1.2 t ht)⟩, hx.2⟩
    | inr t => exact h.2 t hx
  rintro ⟨l, lo, hi, wa, ri, ba, id, dr⟩ ⟨re, base, n, i, bs, co, qu, fa⟩ h
  simp only [gri_cond, Bool.and_eq_true, decide_eq_true_eq] at h
  obtain ⟨hv, hb, hn, hi0, hi1⟩ := h
  subst hb hn
  unfold gri_step
  dsimp only
  have hL : (0 : Int) ≤ i ∧ i < 40 → i < (List.length l : Int) → IntKind.i64.wrap (i + 1) = i + 1 := fun _ _ => IntWalk.i64_in _ ⟨by omega, by omega⟩
  generalize el_iiii l i = e
  obtain ⟨dd, r, ta, du⟩ := e
  dsimp only
  obtain ⟨c, hc⟩ : ∃ c, (if (if (255 : Int) < du then (255 : Int) else du) > (0 : Int) then if (255 : Int) < du then (255 : Int) else du else (0 : Int)) = c := ⟨_, rfl⟩
  obtain ⟨t, ht⟩ : ∃ t, (if (if (1073741824 : Int) < ta then (1073741824 : Int) else ta) > (-1073741824 : Int) then if (1073741824 : Int) < ta then (1073741824 : Int) else ta else (-1073741824 : Int)) = t := ⟨_, rfl⟩
  obtain ⟨s0, h0⟩ : ∃ s, step0 lo hi wa ri ba base n id qu fa dr r ta du = s := ⟨_, rfl⟩
  obtain ⟨s1, h1⟩ : ∃ s, step1 lo hi wa ri ba base n id qu fa dr r ta du = s := ⟨_, rfl⟩
  obtain ⟨s2, h2⟩ : ∃ s, step2 lo hi wa ri ba base n id qu fa dr r ta du = s := ⟨_, rfl⟩
  obtain ⟨s3, h3⟩ : ∃ s, step3 lo hi wa ri ba base n id qu fa dr r ta du = s := ⟨_, rfl⟩
  obtain ⟨s4, h4⟩ : ∃ s, step4 lo hi wa ri ba base n id qu fa dr r ta du = s := ⟨_, rfl⟩
  have K := step_cases hv hc ht h0 h1 h2 h3 h4
  have KV := step_gv (r := r) (ta := ta) (du := du) hv
  have C := clamp255 hc
  simp only [h0, h1, h2, h3] at KV
  simp only [h0, h1, h2, h3, h4]
  have hv' := gv_iff.1 hv
  have e1 : IntKind.i64.wrap (i + 1) = i + 1 := IntWalk.i64_in _ ⟨by omega, by omega⟩
  have e3 : IntKind.i64.wrap (base + ri) = base + ri := IntWalk.i64_in _ ⟨by omega, by omega⟩
  have e5 : IntKind.i64.wrap (n + 1) = n + 1 := IntWalk.i64_in _ ⟨by omega, by omega⟩
  have e6 : IntKind.i64.wrap ((0 : Int) + 1) = 1 := by decide
  by_cases hta : ta < -1000000 ∨ ta > 1000000
  · have d : (bif decide (ta < (-1000000 : Int)) then true else decide (ta > (1000000 : Int))) = true := by simpa using hta
    simp only [Tr.all, d]
    refine ⟨fun c1 => ⟨fun c2 => ⟨fun _ => .inr ⟨rfl, rfl⟩, fun h => by cases h⟩, fun c2 => ?_⟩, fun c1 => .inl rfl⟩
    simp at c1 c2; omega
  have d : (bif decide (ta < (-1000000 : Int)) then true else decide (ta > (1000000 : Int))) = false := by simp; omega
  have htt : t = ta := by subst ht; split <;> split <;> omega
  subst htt
  clear ht hc h0 h1 h2 h3 h4
  have e2 : IntKind.i64.wrap (t - ba) = t - ba := IntWalk.i64_in _ ⟨by omega, by omega⟩
  simp only [e1, e2, e3, e5, e6]
  simp only [Tr.all]
  refine ⟨fun c1 => ⟨fun c2 => ⟨fun c3 => ?_, fun c3 => ⟨fun c4 => ?_, fun c4 => ⟨fun c5 => ⟨fun c6 => ⟨fun c7 => ?_, fun c7 => ?_⟩, fun c6 => ⟨fun c8 => ?_, fun c8 => ?_⟩⟩, fun c5 => ⟨fun c9 => ⟨fun c10 => ?_, fun c10 => ?_⟩, fun c9 => ⟨fun c11 => ?_, fun c11 => ?_⟩⟩⟩⟩⟩, fun c2 => ?_⟩, fun c1 => ?_⟩
  · exact .inr ⟨rfl, rfl⟩
  · simp [Bool.cond_eq_ite] at c1 c2 c3 c4
    have f : s4 = 0 := by omega
    exact .inr ⟨rfl, by rw [f]; rfl⟩
  · simp [Bool.cond_eq_ite] at c1 c2 c3 c4 c5 c6 c7
    exfalso
    omega
  · simp [Bool.cond_eq_ite] at c1 c2 c3 c4 c5 c6 c7
    refine ⟨⟨?_, fun _ ht => ht⟩, ?_⟩
    · simp only [gri_cond, Bool.and_eq_true, decide_eq_true_eq]
      refine ⟨KV, ?_⟩
      omega
    · show (40 - (i + 1)).toNat < (40 - i).toNat
      omega
  · simp [Bool.cond_eq_ite] at c1 c2 c3 c4 c5 c6 c8
    exfalso
    omega
  · simp [Bool.cond_eq_ite] at c1 c2 c3 c4 c5 c6 c8
    refine ⟨⟨?_, fun _ ht => ht⟩, ?_⟩
    · simp only [gri_cond, Bool.and_eq_true, decide_eq_true_eq]
      refine ⟨KV, ?_⟩
      omega
    · show (40 - (i + 1)).toNat < (40 - i).toNat
      omega
  · simp [Bool.cond_eq_ite] at c1 c2 c3 c4 c5 c9 c10
    exfalso
    omega
  · simp [Bool.cond_eq_ite] at c1 c2 c3 c4 c5 c9 c10
    refine ⟨⟨?_, fun _ ht => ht⟩, ?_⟩
    · simp only [gri_cond, Bool.and_eq_true, decide_eq_true_eq]
      refine ⟨KV, ?_⟩
      omega
    · show (40 - (i + 1)).toNat < (40 - i).toNat
      omega
  · simp [Bool.cond_eq_ite] at c1 c2 c3 c4 c5 c9 c11
    exfalso
    omega
  · simp [Bool.cond_eq_ite] at c1 c2 c3 c4 c5 c9 c11
    refine ⟨⟨?_, fun _ ht => ht⟩, ?_⟩
    · simp only [gri_cond, Bool.and_eq_true, decide_eq_true_eq]
      refine ⟨KV, ?_⟩
      omega
    · show (40 - (i + 1)).toNat < (40 - i).toNat
      omega
  · simp [Bool.cond_eq_ite] at c1 c2
    omega
  · exact .inl rfl
theorem gri_all (u : gri_U) (v : gri_V) (h : gri_cond u v = true) : loopN (gri_step u) (gri_mu u v + 1) v = some (gri_g u v) ∧ gri_Q u v (gri_g u v) :=
  loopG_ok (fuel := fun v => gri_mu u v + 1) (loopN_inv (Inv := fun s => gri_cond u s = true ∧ ∀ t, gri_Q u s t → gri_Q u v t) (μ := fun s => gri_mu u s) (gri_round u v) _ v ⟨h, fun _ ht => ht⟩ (Nat.lt_succ_self _))
theorem gri_hg : ∀ (u : gri_U) (v : gri_V), gri_cond u v = true → loopN (gri_step u) ((fun u v => gri_mu u v + 1) u v) v = some (gri_g u v) := by
  exact fun u v h => (gri_all u v h).1
def gri_m (st : Stt) : Option (Tr (Ex × Stt)) := sumM gri_read gri_cond gri_St gri_g [(0, .ret), (1, .exit 0)] st
def gwD_L61 : FuncId → Loops := addL 12 [0, 1, 0, 1, 1, 1, 1] gri_m L0
set_option maxRecDepth 100000 in
set_option maxHeartbeats 4000000 in
theorem gwD_L61_ok : LoopsOK Try.prog gwD_L61 :=
  loop_sumF (body := (bodyOf Try.prog 12)) (c := (loopOf (bodyOf Try.prog 12) [1, 1, 1, 1, 0, 1, 0])) (kinds := [.ret, .exit 0]) (allow := [(0, .ret), (1, .exit 0)]) (St := gri_St) (step := gri_step) (W := [0, 3, 8, 9, 10, 11, 12, 13, 14, 15, 16, 17, 18, 19, 20, 21, 22, 23, 24, 25, 26, 27, 28, 29, 30, 31, 32, 33, 34, 35, 36, 37, 38, 39, 40, 41, 42, 43, 44, 45, 46, 47, 48, 49, 50, 51, 52, 53, 54, 55, 56, 57, 58, 59, 60, 61, 62, 63, 64, 65, 66, 67, 68, 69, 70, 71, 72, 73, 74, 75, 76, 77, 78, 79, 80, 81, 82, 83, 84, 85, 86, 87, 88, 89, 90, 91, 92, 93, 94, 95, 96, 97, 98, 99, 100, 101, 102, 103, 104]) (As := []) (ks := [0]) (dd := []) (nx := 1015) (n := 100000) (g := gri_g) (cond := gri_cond) (fuel := (fun u v => gri_mu u v + 1)) (read := gri_read) (by kernel_rfl) (gwB_S10_ok) (L0_ok _) 7 ⟨Try.f12, by kernel_rfl, by kernel_rfl⟩ (by kernel_rfl) (by kernel_rfl) (by kernel_rfl) gri_step_eq gri_hg gri_read_ok
set_option maxRecDepth 100000 in
theorem law_GuardRises_tree (lo : Int) (hi : Int) (wa : Int) (ri : Int) (ba : Int) (bs : Int) (co : Int) (id : Int) (qu : Int) (fa : Int) (dr : Bool) (l : (Ty.list (.prod (.int .i64) (.prod (.int .i64) (.prod (.int .i64) (.int .i64))))).den) : evalF Try.prog gwB_S10 (opens []) gwD_L61 8 12 [.ag [.v false (.int .i64 lo), .v false (.int .i64 hi), .v false (.int .i64 wa), .v false (.int .i64 ri), .v false (.int .i64 ba), .v false (.int .i64 bs), .v false (.int .i64 co), .v false (.int .i64 id), .v false (.int .i64 qu), .v false (.int .i64 fa), .v false (.bool dr)], .one (.d false false (.prod (.int .i64) (.prod (.int .i64) (.prod (.int .i64) (.int .i64)))) l)] = .br (((true) && (bif bif !gv0 lo hi wa ri ba bs co id qu fa dr then true else co != (0 : Int) then true else ((gri_cond (l, lo, hi, wa, ri, ba, id, dr) (false, bs, (0 : Int), (0 : Int), bs, co, qu, fa)) && (bif Nat.beq (Prod.fst (gri_g (l, lo, hi, wa, ri, ba, id, dr) (false, bs, (0 : Int), (0 : Int), bs, co, qu, fa))) (0 : Nat) then true else (Nat.beq (Prod.fst (gri_g (l, lo, hi, wa, ri, ba, id, dr) (false, bs, (0 : Int), (0 : Int), bs, co, qu, fa))) (1 : Nat))))))) (.ret (.one (.v false (.bool (bif bif !gv0 lo hi wa ri ba bs co id qu fa dr then true else co != (0 : Int) then true else bif Nat.beq (Prod.fst (gri_g (l, lo, hi, wa, ri, ba, id, dr) (false, bs, (0 : Int), (0 : Int), bs, co, qu, fa))) (0 : Nat) then Prod.fst (Prod.snd (gri_g (l, lo, hi, wa, ri, ba, id, dr) (false, bs, (0 : Int), (0 : Int), bs, co, qu, fa))) else true))))) (.bad 116) := by kernel_rfl
set_option maxHeartbeats 4000000 in
theorem law_GuardRises_all (lo : Int) (hi : Int) (wa : Int) (ri : Int) (ba : Int) (bs : Int) (co : Int) (id : Int) (qu : Int) (fa : Int) (dr : Bool) (l : (Ty.list (.prod (.int .i64) (.prod (.int .i64) (.prod (.int .i64) (.int .i64))))).den) (r0 : Ty.InR (.prod (.int .i64) (.prod (.int .i64) (.prod (.int .i64) (.prod (.int .i64) (.prod (.int .i64) (.prod (.int .i64) (.prod (.int .i64) (.prod (.int .i64) (.prod (.int .i64) (.prod (.int .i64) .bool)))))))))) (lo, (hi, (wa, (ri, (ba, (bs, (co, (id, (qu, (fa, dr))))))))))) (r1 : Ty.InR (.list (.prod (.int .i64) (.prod (.int .i64) (.prod (.int .i64) (.int .i64))))) l)  : Tr.all (fun r => ∃ kn, r = AV.one (.v kn (.bool true))) (.br (((true) && (bif bif !gv0 lo hi wa ri ba bs co id qu fa dr then true else co != (0 : Int) then true else ((gri_cond (l, lo, hi, wa, ri, ba, id, dr) (false, bs, (0 : Int), (0 : Int), bs, co, qu, fa)) && (bif Nat.beq (Prod.fst (gri_g (l, lo, hi, wa, ri, ba, id, dr) (false, bs, (0 : Int), (0 : Int), bs, co, qu, fa))) (0 : Nat) then true else (Nat.beq (Prod.fst (gri_g (l, lo, hi, wa, ri, ba, id, dr) (false, bs, (0 : Int), (0 : Int), bs, co, qu, fa))) (1 : Nat))))))) (.ret (.one (.v false (.bool (bif bif !gv0 lo hi wa ri ba bs co id qu fa dr then true else co != (0 : Int) then true else bif Nat.beq (Prod.fst (gri_g (l, lo, hi, wa, ri, ba, id, dr) (false, bs, (0 : Int), (0 : Int), bs, co, qu, fa))) (0 : Nat) then Prod.fst (Prod.snd (gri_g (l, lo, hi, wa, ri, ba, id, dr) (false, bs, (0 : Int), (0 : Int), bs, co, qu, fa))) else true))))) (.bad 116)) := by
  cases hv : gv0 lo hi wa ri ba bs co id qu fa dr
  · simp [Tr.all]
  · by_cases hc0 : co = 0
    · subst hc0
      have hc : gri_cond (l, lo, hi, wa, ri, ba, id, dr) (false, bs, (0 : Int), (0 : Int), bs, 0, qu, fa) = true := by simp [gri_cond, hv]
      have A : gri_Q _ _ _ := (gri_all _ _ hc).2
      rw [hc]
      generalize gri_g (l, lo, hi, wa, ri, ba, id, dr) (false, bs, (0 : Int), (0 : Int), bs, 0, qu, fa) = g at A ⊢
      obtain ⟨k, re', base', n', i', bs', co', qu', fa'⟩ := g
      simp only [gri_Q] at A
      rcases A with A | ⟨A, B⟩ <;> subst A
      · exact ⟨fun _ => ⟨false, rfl⟩, fun h => by cases h⟩
      · subst B
        exact ⟨fun _ => ⟨false, rfl⟩, fun h => by cases h⟩
    · have d : (co != 0) = true := by simpa using hc0
      rw [d]
      exact ⟨fun _ => ⟨false, rfl⟩, fun h => by cases h⟩
set_option maxHeartbeats 4000000 in
theorem law_GuardRises (v0 : Value) (x0 : ((.prod (.int .i64) (.prod (.int .i64) (.prod (.int .i64) (.prod (.int .i64) (.prod (.int .i64) (.prod (.int .i64) (.prod (.int .i64) (.prod (.int .i64) (.prod (.int .i64) (.prod (.int .i64) .bool)))))))))) : Ty).den) (r0 : Ty.InR (.prod (.int .i64) (.prod (.int .i64) (.prod (.int .i64) (.prod (.int .i64) (.prod (.int .i64) (.prod (.int .i64) (.prod (.int .i64) (.prod (.int .i64) (.prod (.int .i64) (.prod (.int .i64) .bool)))))))))) x0) (v1 : Value) (x1 : ((.list (.prod (.int .i64) (.prod (.int .i64) (.prod (.int .i64) (.int .i64))))) : Ty).den) (r1 : Ty.InR (.list (.prod (.int .i64) (.prod (.int .i64) (.prod (.int .i64) (.int .i64))))) x1) (z_w : World) (i0 : (AV.ag (Ty.cells false (.prod (.int .i64) (.prod (.int .i64) (.prod (.int .i64) (.prod (.int .i64) (.prod (.int .i64) (.prod (.int .i64) (.prod (.int .i64) (.prod (.int .i64) (.prod (.int .i64) (.prod (.int .i64) .bool)))))))))) x0)).is [] (fun _ => none) (fun b => b < z_w.heap.size) z_w v0) (i1 : (AV.one (.d false false (.prod (.int .i64) (.prod (.int .i64) (.prod (.int .i64) (.int .i64)))) x1)).is [] (fun _ => none) (fun b => b < z_w.heap.size) z_w v1) : Calls Try.prog 12 #[v0, v1] z_w fun e w' => e = .returned (.bool true) ∧ Ext z_w w' := by
  obtain ⟨lo, ⟨hi, ⟨wa, ⟨ri, ⟨ba, ⟨bs, ⟨co, ⟨id, ⟨qu, ⟨fa, dr⟩⟩⟩⟩⟩⟩⟩⟩⟩⟩ := x0
  obtain ⟨l, rfl⟩ : ∃ y, y = x1 := ⟨_, rfl⟩
  refine law_of_tree (by kernel_rfl) (gwB_S10_ok) (gwD_L61_ok) (law_GuardRises_tree lo hi wa ri ba bs co id qu fa dr l) (law_GuardRises_all lo hi wa ri ba bs co id qu fa dr l r0 r1 ) rfl z_w _ _ (fun _ h => h) ⟨_, _, rfl, i0, ⟨_, _, rfl, i1, rfl⟩⟩
end Go.Proofs.Ytnmjikaojoaaaaa
