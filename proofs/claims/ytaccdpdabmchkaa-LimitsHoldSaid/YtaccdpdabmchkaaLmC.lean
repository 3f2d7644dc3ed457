/-
  Layer 43: Junction.
-/
import Derived.Test.YtaccdpdabmchkaaProg
import Derived.Test.YtaccdpdabmchkaaFvX
import Derived.Test.YtaccdpdabmchkaaFvZ
import Derived.Test.YtaccdpdabmchkaaAut
import Derived.Test.YtaccdpdabmchkaaLmA
import Derived.Test.YtaccdpdabmchkaaLmB
namespace Go.Proofs.Ytaccdpdabmchkaa
open Go
def juE (j0 j1 j2 j3 a b c d p q u v : Int) : Int := lea (lea (lea (lea ((1048576 : Int)) (j0 * dom a b c d) (dom p q u v) (ab (a * dom p q u v - p * dom a b c d))) (j1 * dom a b c d) (dom p q u v) (ab (b * dom p q u v - q * dom a b c d))) (j2 * dom a b c d) (dom p q u v) (ab (c * dom p q u v - u * dom a b c d))) (j3 * dom a b c d) (dom p q u v) (ab (d * dom p q u v - v * dom a b c d))
set_option maxRecDepth 100000 in
theorem jun_tree (n0 : Int) (d0 : Int) (s0 : Int) (a0 : Int) (j0 : Int) (l0 : Int) (h0 : Int) (n1 : Int) (d1 : Int) (s1 : Int) (a1 : Int) (j1 : Int) (l1 : Int) (h1 : Int) (n2 : Int) (d2 : Int) (s2 : Int) (a2 : Int) (j2 : Int) (l2 : Int) (h2 : Int) (n3 : Int) (d3 : Int) (s3 : Int) (a3 : Int) (j3 : Int) (l3 : Int) (h3 : Int) (xy : Bool) (tk : Int) (a : Int) (b : Int) (c : Int) (d : Int) (p : Int) (q : Int) (u : Int) (v : Int) : evalF Try.prog lmB_S81 (opens []) L0 9 6 [.ag [.v false (.int .i64 n0), .v false (.int .i64 d0), .v false (.int .i64 s0), .v false (.int .i64 a0), .v false (.int .i64 j0), .v false (.int .i64 l0), .v false (.int .i64 h0), .v false (.int .i64 n1), .v false (.int .i64 d1), .v false (.int .i64 s1), .v false (.int .i64 a1), .v false (.int .i64 j1), .v false (.int .i64 l1), .v false (.int .i64 h1), .v false (.int .i64 n2), .v false (.int .i64 d2), .v false (.int .i64 s2), .v false (.int .i64 a2), .v false (.int .i64 j2), .v false (.int .i64 l2), .v false (.int .i64 h2), .v false (.int .i64 n3), .v false (.int .i64 d3), .v false (.int .i64 s3), .v false (.int .i64 a3), .v false (.int .i64 j3), .v false (.int .i64 l3), .v false (.int .i64 h3), .v false (.bool xy), .v false (.int .i64 tk)], .ag [.v false (.int .i64 a), .v false (.int .i64 b), .v false (.int .i64 c), .v false (.int .i64 d)], .ag [.v false (.int .i64 p), .v false (.int .i64 q), .v false (.int .i64 u), .v false (.int .i64 v)]] = .br ((bif bif bif !kv0 n0 d0 s0 a0 j0 l0 h0 n1 d1 s1 a1 j1 l1 h1 n2 d2 s2 a2 j2 l2 h2 n3 d3 s3 a3 j3 l3 h3 xy tk then true else !dval a b c d then true else !dval p q u v then true else ((inS (IntKind.wrap IntKind.i64 (IntKind.wrap IntKind.i64 (a * dom p q u v) - IntKind.wrap IntKind.i64 (p * dom a b c d)))) && ((inR (IntKind.wrap IntKind.i64 (j0 * dom a b c d)) && inR (dom p q u v) && inR (ab (IntKind.wrap IntKind.i64 (IntKind.wrap IntKind.i64 (a * dom p q u v) - IntKind.wrap IntKind.i64 (p * dom a b c d))))) && ((inS (IntKind.wrap IntKind.i64 (IntKind.wrap IntKind.i64 (b * dom p q u v) - IntKind.wrap IntKind.i64 (q * dom a b c d)))) && ((inR (IntKind.wrap IntKind.i64 (j1 * dom a b c d)) && inR (dom p q u v) && inR (ab (IntKind.wrap IntKind.i64 (IntKind.wrap IntKind.i64 (b * dom p q u v) - IntKind.wrap IntKind.i64 (q * dom a b c d))))) && ((inS (IntKind.wrap IntKind.i64 (IntKind.wrap IntKind.i64 (c * dom p q u v) - IntKind.wrap IntKind.i64 (u * dom a b c d)))) && ((inR (IntKind.wrap IntKind.i64 (j2 * dom a b c d)) && inR (dom p q u v) && inR (ab (IntKind.wrap IntKind.i64 (IntKind.wrap IntKind.i64 (c * dom p q u v) - IntKind.wrap IntKind.i64 (u * dom a b c d))))) && ((inS (IntKind.wrap IntKind.i64 (IntKind.wrap IntKind.i64 (d * dom p q u v) - IntKind.wrap IntKind.i64 (v * dom a b c d)))) && (inR (IntKind.wrap IntKind.i64 (j3 * dom a b c d)) && inR (dom p q u v) && inR (ab (IntKind.wrap IntKind.i64 (IntKind.wrap IntKind.i64 (d * dom p q u v) - IntKind.wrap IntKind.i64 (v * dom a b c d)))))))))))))) (.ret (.one (.v false (.int .i64 (bif bif bif !kv0 n0 d0 s0 a0 j0 l0 h0 n1 d1 s1 a1 j1 l1 h1 n2 d2 s2 a2 j2 l2 h2 n3 d3 s3 a3 j3 l3 h3 xy tk then true else !dval a b c d then true else !dval p q u v then (0 : Int) else lea (lea (lea (lea (1048576 : Int) (IntKind.wrap IntKind.i64 (j0 * dom a b c d)) (dom p q u v) (ab (IntKind.wrap IntKind.i64 (IntKind.wrap IntKind.i64 (a * dom p q u v) - IntKind.wrap IntKind.i64 (p * dom a b c d))))) (IntKind.wrap IntKind.i64 (j1 * dom a b c d)) (dom p q u v) (ab (IntKind.wrap IntKind.i64 (IntKind.wrap IntKind.i64 (b * dom p q u v) - IntKind.wrap IntKind.i64 (q * dom a b c d))))) (IntKind.wrap IntKind.i64 (j2 * dom a b c d)) (dom p q u v) (ab (IntKind.wrap IntKind.i64 (IntKind.wrap IntKind.i64 (c * dom p q u v) - IntKind.wrap IntKind.i64 (u * dom a b c d))))) (IntKind.wrap IntKind.i64 (j3 * dom a b c d)) (dom p q u v) (ab (IntKind.wrap IntKind.i64 (IntKind.wrap IntKind.i64 (d * dom p q u v) - IntKind.wrap IntKind.i64 (v * dom a b c d))))))))) (.bad 116) := by kernel_rfl
set_option maxHeartbeats 4000000 in
theorem jun_val (n0 : Int) (d0 : Int) (s0 : Int) (a0 : Int) (j0 : Int) (l0 : Int) (h0 : Int) (n1 : Int) (d1 : Int) (s1 : Int) (a1 : Int) (j1 : Int) (l1 : Int) (h1 : Int) (n2 : Int) (d2 : Int) (s2 : Int) (a2 : Int) (j2 : Int) (l2 : Int) (h2 : Int) (n3 : Int) (d3 : Int) (s3 : Int) (a3 : Int) (j3 : Int) (l3 : Int) (h3 : Int) (xy : Bool) (tk : Int) (a : Int) (b : Int) (c : Int) (d : Int) (p : Int) (q : Int) (u : Int) (v : Int) : (.br ((bif bif bif !kv0 n0 d0 s0 a0 j0 l0 h0 n1 d1 s1 a1 j1 l1 h1 n2 d2 s2 a2 j2 l2 h2 n3 d3 s3 a3 j3 l3 h3 xy tk then true else !dval a b c d then true else !dval p q u v then true else ((inS (IntKind.wrap IntKind.i64 (IntKind.wrap IntKind.i64 (a * dom p q u v) - IntKind.wrap IntKind.i64 (p * dom a b c d)))) && ((inR (IntKind.wrap IntKind.i64 (j0 * dom a b c d)) && inR (dom p q u v) && inR (ab (IntKind.wrap IntKind.i64 (IntKind.wrap IntKind.i64 (a * dom p q u v) - IntKind.wrap IntKind.i64 (p * dom a b c d))))) && ((inS (IntKind.wrap IntKind.i64 (IntKind.wrap IntKind.i64 (b * dom p q u v) - IntKind.wrap IntKind.i64 (q * dom a b c d)))) && ((inR (IntKind.wrap IntKind.i64 (j1 * dom a b c d)) && inR (dom p q u v) && inR (ab (IntKind.wrap IntKind.i64 (IntKind.wrap IntKind.i64 (b * dom p q u v) - IntKind.wrap IntKind.i64 (q * dom a b c d))))) && ((inS (IntKind.wrap IntKind.i64 (IntKind.wrap IntKind.i64 (c * dom p q u v) - IntKind.wrap IntKind.i64 (u * dom a b c d)))) && ((inR (IntKind.wrap IntKind.i64 (j2 * dom a b c d)) && inR (dom p q u v) && inR (ab (IntKind.wrap IntKind.i64 (IntKind.wrap IntKind.i64 (c * dom p q u v) - IntKind.wrap IntKind.i64 (u * dom a b c d))))) && ((inS (IntKind.wrap IntKind.i64 (IntKind.wrap IntKind.i64 (d * dom p q u v) - IntKind.wrap IntKind.i64 (v * dom a b c d)))) && (inR (IntKind.wrap IntKind.i64 (j3 * dom a b c d)) && inR (dom p q u v) && inR (ab (IntKind.wrap IntKind.i64 (IntKind.wrap IntKind.i64 (d * dom p q u v) - IntKind.wrap IntKind.i64 (v * dom a b c d)))))))))))))) (.ret (.one (.v false (.int .i64 (bif bif bif !kv0 n0 d0 s0 a0 j0 l0 h0 n1 d1 s1 a1 j1 l1 h1 n2 d2 s2 a2 j2 l2 h2 n3 d3 s3 a3 j3 l3 h3 xy tk then true else !dval a b c d then true else !dval p q u v then (0 : Int) else lea (lea (lea (lea (1048576 : Int) (IntKind.wrap IntKind.i64 (j0 * dom a b c d)) (dom p q u v) (ab (IntKind.wrap IntKind.i64 (IntKind.wrap IntKind.i64 (a * dom p q u v) - IntKind.wrap IntKind.i64 (p * dom a b c d))))) (IntKind.wrap IntKind.i64 (j1 * dom a b c d)) (dom p q u v) (ab (IntKind.wrap IntKind.i64 (IntKind.wrap IntKind.i64 (b * dom p q u v) - IntKind.wrap IntKind.i64 (q * dom a b c d))))) (IntKind.wrap IntKind.i64 (j2 * dom a b c d)) (dom p q u v) (ab (IntKind.wrap IntKind.i64 (IntKind.wrap IntKind.i64 (c * dom p q u v) - IntKind.wrap IntKind.i64 (u * dom a b c d))))) (IntKind.wrap IntKind.i64 (j3 * dom a b c d)) (dom p q u v) (ab (IntKind.wrap IntKind.i64 (IntKind.wrap IntKind.i64 (d * dom p q u v) - IntKind.wrap IntKind.i64 (v * dom a b c d))))))))) (.bad 116) : Tr AV).val = some (.one (.v false (.int .i64 (bif kv0 n0 d0 s0 a0 j0 l0 h0 n1 d1 s1 a1 j1 l1 h1 n2 d2 s2 a2 j2 l2 h2 n3 d3 s3 a3 j3 l3 h3 xy tk && dval a b c d && dval p q u v then juE j0 j1 j2 j3 a b c d p q u v else 0)))) := by
  show cond _ _ _ = _
  cases hk : kv0 n0 d0 s0 a0 j0 l0 h0 n1 d1 s1 a1 j1 l1 h1 n2 d2 s2 a2 j2 l2 h2 n3 d3 s3 a3 j3 l3 h3 xy tk
  · simp only [Bool.not_false, cond_true, Bool.false_and, cond_false, Tr.val]
  · cases hd : dval a b c d
    · simp only [Bool.not_true, Bool.not_false, cond_true, cond_false, Bool.and_false, Bool.false_and, Tr.val]
    · cases hd2 : dval p q u v
      · simp only [Bool.not_true, Bool.not_false, cond_true, cond_false, Bool.and_false, Tr.val]
      have hn := dom_in a b c d
      have hm := dom_in p q u v
      obtain ⟨e0, e1, e2, e3, _⟩ := dv_iff.1 hd
      obtain ⟨g0, g1, g2, g3, _⟩ := dv_iff.1 hd2
      obtain ⟨⟨_, _, _, _, _, _, _, _⟩, ⟨_, _, _, _, _, _, _, _⟩, ⟨_, _, _, _, _, _, _, _⟩⟩ := kv_spec hk
      have ma := mul_bd (x := a) (y := dom p q u v) (X := 16777216) (Y := 16777216) ⟨by omega, by omega⟩ ⟨by omega, by omega⟩ (by omega)
      have mp := mul_bd (x := p) (y := dom a b c d) (X := 16777216) (Y := 16777216) ⟨by omega, by omega⟩ ⟨by omega, by omega⟩ (by omega)
      have wa : IntKind.wrap IntKind.i64 (a * dom p q u v) = a * dom p q u v := IntWalk.i64_in _ ⟨by omega, by omega⟩
      have wp : IntKind.wrap IntKind.i64 (p * dom a b c d) = p * dom a b c d := IntWalk.i64_in _ ⟨by omega, by omega⟩
      have ya : IntKind.wrap IntKind.i64 (a * dom p q u v - p * dom a b c d) = a * dom p q u v - p * dom a b c d := IntWalk.i64_in _ ⟨by omega, by omega⟩
      have mj0 := mul_bd (x := j0) (y := dom a b c d) (X := 1048576) (Y := 16777216) ⟨by omega, by omega⟩ ⟨by omega, by omega⟩ (by omega)
      have wj0 : IntKind.wrap IntKind.i64 (j0 * dom a b c d) = j0 * dom a b c d := IntWalk.i64_in _ ⟨by omega, by omega⟩
      have rj0 : inR (j0 * dom a b c d) = true := inR_of (by omega) (by omega)
      have za := ab_eq 562949953421312 (x := a * dom p q u v - p * dom a b c d) (by omega) (by omega)
      have sa : inS (a * dom p q u v - p * dom a b c d) = true := inS_of (by omega) (by omega)
      have ra : inR (ab (a * dom p q u v - p * dom a b c d)) = true := inR_of (by omega) (by omega)
      have mb := mul_bd (x := b) (y := dom p q u v) (X := 16777216) (Y := 16777216) ⟨by omega, by omega⟩ ⟨by omega, by omega⟩ (by omega)
      have mq := mul_bd (x := q) (y := dom a b c d) (X := 16777216) (Y := 16777216) ⟨by omega, by omega⟩ ⟨by omega, by omega⟩ (by omega)
      have wb : IntKind.wrap IntKind.i64 (b * dom p q u v) = b * dom p q u v := IntWalk.i64_in _ ⟨by omega, by omega⟩
      have wq : IntKind.wrap IntKind.i64 (q * dom a b c d) = q * dom a b c d := IntWalk.i64_in _ ⟨by omega, by omega⟩
      have yb : IntKind.wrap IntKind.i64 (b * dom p q u v - q * dom a b c d) = b * dom p q u v - q * dom a b c d := IntWalk.i64_in _ ⟨by omega, by omega⟩
      have mj1 := mul_bd (x := j1) (y := dom a b c d) (X := 1048576) (Y := 16777216) ⟨by omega, by omega⟩ ⟨by omega, by omega⟩ (by omega)
      have wj1 : IntKind.wrap IntKind.i64 (j1 * dom a b c d) = j1 * dom a b c d := IntWalk.i64_in _ ⟨by omega, by omega⟩
      have rj1 : inR (j1 * dom a b c d) = true := inR_of (by omega) (by omega)
      have zb := ab_eq 562949953421312 (x := b * dom p q u v - q * dom a b c d) (by omega) (by omega)
      have sb : inS (b * dom p q u v - q * dom a b c d) = true := inS_of (by omega) (by omega)
      have rb : inR (ab (b * dom p q u v - q * dom a b c d)) = true := inR_of (by omega) (by omega)
      have mc := mul_bd (x := c) (y := dom p q u v) (X := 16777216) (Y := 16777216) ⟨by omega, by omega⟩ ⟨by omega, by omega⟩ (by omega)
      have mu := mul_bd (x := u) (y := dom a b c d) (X := 16777216) (Y := 16777216) ⟨by omega, by omega⟩ ⟨by omega, by omega⟩ (by omega)
      have wc : IntKind.wrap IntKind.i64 (c * dom p q u v) = c * dom p q u v := IntWalk.i64_in _ ⟨by omega, by omega⟩
      have wu : IntKind.wrap IntKind.i64 (u * dom a b c d) = u * dom a b c d := IntWalk.i64_in _ ⟨by omega, by omega⟩
      have yc : IntKind.wrap IntKind.i64 (c * dom p q u v - u * dom a b c d) = c * dom p q u v - u * dom a b c d := IntWalk.i64_in _ ⟨by omega, by omega⟩
      have mj2 := mul_bd (x := j2) (y := dom a b c d) (X := 1048576) (Y := 16777216) ⟨by omega, by omega⟩ ⟨by omega, by omega⟩ (by omega)
      have wj2 : IntKind.wrap IntKind.i64 (j2 * dom a b c d) = j2 * dom a b c d := IntWalk.i64_in _ ⟨by omega, by omega⟩
      have rj2 : inR (j2 * dom a b c d) = true := inR_of (by omega) (by omega)
      have zc := ab_eq 562949953421312 (x := c * dom p q u v - u * dom a b c d) (by omega) (by omega)
      have sc : inS (c * dom p q u v - u * dom a b c d) = true := inS_of (by omega) (by omega)
      have rc : inR (ab (c * dom p q u v - u * dom a b c d)) = true := inR_of (by omega) (by omega)
      have md := mul_bd (x := d) (y := dom p q u v) (X := 16777216) (Y := 16777216) ⟨by omega, by omega⟩ ⟨by omega, by omega⟩ (by omega)
      have mv := mul_bd (x := v) (y := dom a b c d) (X := 16777216) (Y := 16777216) ⟨by omega, by omega⟩ ⟨by omega, by omega⟩ (by omega)
      have wd : IntKind.wrap IntKind.i64 (d * dom p q u v) = d * dom p q u v := IntWalk.i64_in _ ⟨by omega, by omega⟩
      have wv : IntKind.wrap IntKind.i64 (v * dom a b c d) = v * dom a b c d := IntWalk.i64_in _ ⟨by omega, by omega⟩
      have yd : IntKind.wrap IntKind.i64 (d * dom p q u v - v * dom a b c d) = d * dom p q u v - v * dom a b c d := IntWalk.i64_in _ ⟨by omega, by omega⟩
      have mj3 := mul_bd (x := j3) (y := dom a b c d) (X := 1048576) (Y := 16777216) ⟨by omega, by omega⟩ ⟨by omega, by omega⟩ (by omega)
      have wj3 : IntKind.wrap IntKind.i64 (j3 * dom a b c d) = j3 * dom a b c d := IntWalk.i64_in _ ⟨by omega, by omega⟩
      have rj3 : inR (j3 * dom a b c d) = true := inR_of (by omega) (by omega)
      have zd := ab_eq 562949953421312 (x := d * dom p q u v - v * dom a b c d) (by omega) (by omega)
      have sd : inS (d * dom p q u v - v * dom a b c d) = true := inS_of (by omega) (by omega)
      have rd : inR (ab (d * dom p q u v - v * dom a b c d)) = true := inR_of (by omega) (by omega)
      have mn := mul_bd (x := dom a b c d) (y := dom p q u v) (X := 16777216) (Y := 16777216) ⟨by omega, by omega⟩ ⟨by omega, by omega⟩ (by omega)
      have wn : IntKind.wrap IntKind.i64 (dom a b c d * dom p q u v) = dom a b c d * dom p q u v := IntWalk.i64_in _ ⟨by omega, by omega⟩
      have rn : inR (dom a b c d * dom p q u v) = true := inR_of (by omega) (by omega)
      have rk : inR (dom p q u v) = true := inR_of (by omega) (by omega)
      have q0 : inR j0 = true := inR_of (by omega) (by omega)
      have q1 : inR j1 = true := inR_of (by omega) (by omega)
      have q2 : inR j2 = true := inR_of (by omega) (by omega)
      have q3 : inR j3 = true := inR_of (by omega) (by omega)
      simp only [wa, wp, ya, wj0, wb, wq, yb, wj1, wc, wu, yc, wj2, wd, wv, yd, wj3]
      simp only [rj0, sa, ra, rj1, sb, rb, rj2, sc, rc, rj3, sd, rd, q0, q1, q2, q3, rk, juE, Bool.not_true, cond_false, cond_true, Bool.and_self, Bool.true_and, cond_same, Tr.val]
def jun_p2 (z_2 : AV) (n0 : Int) (d0 : Int) (s0 : Int) (a0 : Int) (j0 : Int) (l0 : Int) (h0 : Int) (n1 : Int) (d1 : Int) (s1 : Int) (a1 : Int) (j1 : Int) (l1 : Int) (h1 : Int) (n2 : Int) (d2 : Int) (s2 : Int) (a2 : Int) (j2 : Int) (l2 : Int) (h2 : Int) (n3 : Int) (d3 : Int) (s3 : Int) (a3 : Int) (j3 : Int) (l3 : Int) (h3 : Int) (xy : Bool) (tk : Int) (a : Int) (b : Int) (c : Int) (d : Int) : Option (Tr AV) :=
  match z_2 with
  | .ag [.v _ (.int .i64 p), .v _ (.int .i64 q), .v _ (.int .i64 u), .v _ (.int .i64 v)] => some (.ret (.one (.v false (.int .i64 (bif kv0 n0 d0 s0 a0 j0 l0 h0 n1 d1 s1 a1 j1 l1 h1 n2 d2 s2 a2 j2 l2 h2 n3 d3 s3 a3 j3 l3 h3 xy tk && dval a b c d && dval p q u v then juE j0 j1 j2 j3 a b c d p q u v else 0)))))
  | _ => none
def jun_p1 (z_1 : AV) (z_2 : AV) (n0 : Int) (d0 : Int) (s0 : Int) (a0 : Int) (j0 : Int) (l0 : Int) (h0 : Int) (n1 : Int) (d1 : Int) (s1 : Int) (a1 : Int) (j1 : Int) (l1 : Int) (h1 : Int) (n2 : Int) (d2 : Int) (s2 : Int) (a2 : Int) (j2 : Int) (l2 : Int) (h2 : Int) (n3 : Int) (d3 : Int) (s3 : Int) (a3 : Int) (j3 : Int) (l3 : Int) (h3 : Int) (xy : Bool) (tk : Int) : Option (Tr AV) :=
  match z_1 with
  | .ag [.v _ (.int .i64 a), .v _ (.int .i64 b), .v _ (.int .i64 c), .v _ (.int .i64 d)] => jun_p2 z_2 n0 d0 s0 a0 j0 l0 h0 n1 d1 s1 a1 j1 l1 h1 n2 d2 s2 a2 j2 l2 h2 n3 d3 s3 a3 j3 l3 h3 xy tk a b c d
  | _ => none
def jun_p0 (z_0 : AV) (z_1 : AV) (z_2 : AV)  : Option (Tr AV) :=
  match z_0 with
  | .ag [.v _ (.int .i64 n0), .v _ (.int .i64 d0), .v _ (.int .i64 s0), .v _ (.int .i64 a0), .v _ (.int .i64 j0), .v _ (.int .i64 l0), .v _ (.int .i64 h0), .v _ (.int .i64 n1), .v _ (.int .i64 d1), .v _ (.int .i64 s1), .v _ (.int .i64 a1), .v _ (.int .i64 j1), .v _ (.int .i64 l1), .v _ (.int .i64 h1), .v _ (.int .i64 n2), .v _ (.int .i64 d2), .v _ (.int .i64 s2), .v _ (.int .i64 a2), .v _ (.int .i64 j2), .v _ (.int .i64 l2), .v _ (.int .i64 h2), .v _ (.int .i64 n3), .v _ (.int .i64 d3), .v _ (.int .i64 s3), .v _ (.int .i64 a3), .v _ (.int .i64 j3), .v _ (.int .i64 l3), .v _ (.int .i64 h3), .v _ (.bool xy), .v _ (.int .i64 tk)] => jun_p1 z_1 z_2 n0 d0 s0 a0 j0 l0 h0 n1 d1 s1 a1 j1 l1 h1 n2 d2 s2 a2 j2 l2 h2 n3 d3 s3 a3 j3 l3 h3 xy tk
  | _ => none
def jun_g : List AV → Option (Tr AV)
  | [z_0, z_1, z_2] => jun_p0 z_0 z_1 z_2
  | _ => none
set_option maxHeartbeats 4000000 in
theorem jun_ok : FunOK Try.prog 6 jun_g := by
  refine fun_ok (by kernel_rfl) (lmB_S81_ok) (L0_ok _) 9 (On := (opens [])) (fun args t h => ?_)
  unfold jun_g at h
  split at h
  rotate_left
  · cases h
  unfold jun_p0 at h
  split at h
  rotate_left
  · cases h
  rename_i _ n0 _ d0 _ s0 _ a0 _ j0 _ l0 _ h0 _ n1 _ d1 _ s1 _ a1 _ j1 _ l1 _ h1 _ n2 _ d2 _ s2 _ a2 _ j2 _ l2 _ h2 _ n3 _ d3 _ s3 _ a3 _ j3 _ l3 _ h3 _ xy _ tk
  unfold jun_p1 at h
  split at h
  rotate_left
  · cases h
  rename_i _ a _ b _ c _ d
  unfold jun_p2 at h
  split at h
  rotate_left
  · cases h
  rename_i _ p _ q _ u _ v
  simp only [Option.some.injEq] at h
  subst h
  refine ⟨[.ag [.v false (.int .i64 n0), .v false (.int .i64 d0), .v false (.int .i64 s0), .v false (.int .i64 a0), .v false (.int .i64 j0), .v false (.int .i64 l0), .v false (.int .i64 h0), .v false (.int .i64 n1), .v false (.int .i64 d1), .v false (.int .i64 s1), .v false (.int .i64 a1), .v false (.int .i64 j1), .v false (.int .i64 l1), .v false (.int .i64 h1), .v false (.int .i64 n2), .v false (.int .i64 d2), .v false (.int .i64 s2), .v false (.int .i64 a2), .v false (.int .i64 j2), .v false (.int .i64 l2), .v false (.int .i64 h2), .v false (.int .i64 n3), .v false (.int .i64 d3), .v false (.int .i64 s3), .v false (.int .i64 a3), .v false (.int .i64 j3), .v false (.int .i64 l3), .v false (.int .i64 h3), .v false (.bool xy), .v false (.int .i64 tk)], .ag [.v false (.int .i64 a), .v false (.int .i64 b), .v false (.int .i64 c), .v false (.int .i64 d)], .ag [.v false (.int .i64 p), .v false (.int .i64 q), .v false (.int .i64 u), .v false (.int .i64 v)]], rfl, fun fr w us h => h, fun r hr => ?_⟩
  simp only [Tr.val, Option.some.injEq] at hr
  subst hr
  rw [jun_tree]
  exact jun_val n0 d0 s0 a0 j0 l0 h0 n1 d1 s1 a1 j1 l1 h1 n2 d2 s2 a2 j2 l2 h2 n3 d3 s3 a3 j3 l3 h3 xy tk a b c d p q u v
def lmC_S81 : Sums := addS 6 jun_g lmB_S81
theorem lmC_S81_ok : SumOK Try.prog lmC_S81 := addS_ok (jun_ok) (lmB_S81_ok)
end Go.Proofs.Ytaccdpdabmchkaa
