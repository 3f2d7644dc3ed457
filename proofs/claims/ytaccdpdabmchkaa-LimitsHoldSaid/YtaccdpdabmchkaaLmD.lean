/-
  Layer 43: Speed.
-/
import Derived.Test.YtaccdpdabmchkaaProg
import Derived.Test.YtaccdpdabmchkaaFvX
import Derived.Test.YtaccdpdabmchkaaFvZ
import Derived.Test.YtaccdpdabmchkaaAut
import Derived.Test.YtaccdpdabmchkaaLmA
import Derived.Test.YtaccdpdabmchkaaLmB
namespace Go.Proofs.Ytaccdpdabmchkaa
open Go
def spE (s0 s1 s2 s3 a b c d : Int) : Int := lea (lea (lea (lea (1048576 : Int) s0 (dom a b c d) (ab a)) s1 (dom a b c d) (ab b)) s2 (dom a b c d) (ab c)) s3 (dom a b c d) (ab d)
def spV (s0 s1 s2 s3 a b c d li fe : Int) : Int := bif bif decide (li > 0) then decide (fe > 0) else false then (if lea (spE s0 s1 s2 s3 a b c d) fe (dom a b c d) li > 1 then lea (spE s0 s1 s2 s3 a b c d) fe (dom a b c d) li else 1) else spE s0 s1 s2 s3 a b c d
set_option maxRecDepth 100000 in
theorem spd_tree (n0 : Int) (d0 : Int) (s0 : Int) (a0 : Int) (j0 : Int) (l0 : Int) (h0 : Int) (n1 : Int) (d1 : Int) (s1 : Int) (a1 : Int) (j1 : Int) (l1 : Int) (h1 : Int) (n2 : Int) (d2 : Int) (s2 : Int) (a2 : Int) (j2 : Int) (l2 : Int) (h2 : Int) (n3 : Int) (d3 : Int) (s3 : Int) (a3 : Int) (j3 : Int) (l3 : Int) (h3 : Int) (xy : Bool) (tk : Int) (a : Int) (b : Int) (c : Int) (d : Int) (li : Int) (fe : Int) : evalF Try.prog lmB_S81 (opens []) L0 9 5 [.ag [.v false (.int .i64 n0), .v false (.int .i64 d0), .v false (.int .i64 s0), .v false (.int .i64 a0), .v false (.int .i64 j0), .v false (.int .i64 l0), .v false (.int .i64 h0), .v false (.int .i64 n1), .v false (.int .i64 d1), .v false (.int .i64 s1), .v false (.int .i64 a1), .v false (.int .i64 j1), .v false (.int .i64 l1), .v false (.int .i64 h1), .v false (.int .i64 n2), .v false (.int .i64 d2), .v false (.int .i64 s2), .v false (.int .i64 a2), .v false (.int .i64 j2), .v false (.int .i64 l2), .v false (.int .i64 h2), .v false (.int .i64 n3), .v false (.int .i64 d3), .v false (.int .i64 s3), .v false (.int .i64 a3), .v false (.int .i64 j3), .v false (.int .i64 l3), .v false (.int .i64 h3), .v false (.bool xy), .v false (.int .i64 tk)], .ag [.v false (.int .i64 a), .v false (.int .i64 b), .v false (.int .i64 c), .v false (.int .i64 d)], .one (.v false (.int .i64 li)), .one (.v false (.int .i64 fe))] = .br ((bif bif !kv0 n0 d0 s0 a0 j0 l0 h0 n1 d1 s1 a1 j1 l1 h1 n2 d2 s2 a2 j2 l2 h2 n3 d3 s3 a3 j3 l3 h3 xy tk then true else !dval a b c d then true else ((inS a) && ((inR s0 && inR (dom a b c d) && inR (ab a)) && ((inS b) && ((inR s1 && inR (dom a b c d) && inR (ab b)) && ((inS c) && ((inR s2 && inR (dom a b c d) && inR (ab c)) && ((inS d) && ((inR s3 && inR (dom a b c d) && inR (ab d)) && (bif bif decide (li > (0 : Int)) then decide (fe > (0 : Int)) else false then (inR fe && inR (dom a b c d) && inR li) else true))))))))))) (.ret (.one (.v false (.int .i64 (bif bif !kv0 n0 d0 s0 a0 j0 l0 h0 n1 d1 s1 a1 j1 l1 h1 n2 d2 s2 a2 j2 l2 h2 n3 d3 s3 a3 j3 l3 h3 xy tk then true else !dval a b c d then (0 : Int) else bif bif decide (li > (0 : Int)) then decide (fe > (0 : Int)) else false then if lea (lea (lea (lea (lea (1048576 : Int) s0 (dom a b c d) (ab a)) s1 (dom a b c d) (ab b)) s2 (dom a b c d) (ab c)) s3 (dom a b c d) (ab d)) fe (dom a b c d) li > (1 : Int) then lea (lea (lea (lea (lea (1048576 : Int) s0 (dom a b c d) (ab a)) s1 (dom a b c d) (ab b)) s2 (dom a b c d) (ab c)) s3 (dom a b c d) (ab d)) fe (dom a b c d) li else (1 : Int) else lea (lea (lea (lea (1048576 : Int) s0 (dom a b c d) (ab a)) s1 (dom a b c d) (ab b)) s2 (dom a b c d) (ab c)) s3 (dom a b c d) (ab d)))))) (.bad 116) := by kernel_rfl
theorem spd_val (n0 : Int) (d0 : Int) (s0 : Int) (a0 : Int) (j0 : Int) (l0 : Int) (h0 : Int) (n1 : Int) (d1 : Int) (s1 : Int) (a1 : Int) (j1 : Int) (l1 : Int) (h1 : Int) (n2 : Int) (d2 : Int) (s2 : Int) (a2 : Int) (j2 : Int) (l2 : Int) (h2 : Int) (n3 : Int) (d3 : Int) (s3 : Int) (a3 : Int) (j3 : Int) (l3 : Int) (h3 : Int) (xy : Bool) (tk : Int) (a : Int) (b : Int) (c : Int) (d : Int) (li : Int) (fe : Int) (hc : (inR li && inR fe) = true) : (.br ((bif bif !kv0 n0 d0 s0 a0 j0 l0 h0 n1 d1 s1 a1 j1 l1 h1 n2 d2 s2 a2 j2 l2 h2 n3 d3 s3 a3 j3 l3 h3 xy tk then true else !dval a b c d then true else ((inS a) && ((inR s0 && inR (dom a b c d) && inR (ab a)) && ((inS b) && ((inR s1 && inR (dom a b c d) && inR (ab b)) && ((inS c) && ((inR s2 && inR (dom a b c d) && inR (ab c)) && ((inS d) && ((inR s3 && inR (dom a b c d) && inR (ab d)) && (bif bif decide (li > (0 : Int)) then decide (fe > (0 : Int)) else false then (inR fe && inR (dom a b c d) && inR li) else true))))))))))) (.ret (.one (.v false (.int .i64 (bif bif !kv0 n0 d0 s0 a0 j0 l0 h0 n1 d1 s1 a1 j1 l1 h1 n2 d2 s2 a2 j2 l2 h2 n3 d3 s3 a3 j3 l3 h3 xy tk then true else !dval a b c d then (0 : Int) else bif bif decide (li > (0 : Int)) then decide (fe > (0 : Int)) else false then if lea (lea (lea (lea (lea (1048576 : Int) s0 (dom a b c d) (ab a)) s1 (dom a b c d) (ab b)) s2 (dom a b c d) (ab c)) s3 (dom a b c d) (ab d)) fe (dom a b c d) li > (1 : Int) then lea (lea (lea (lea (lea (1048576 : Int) s0 (dom a b c d) (ab a)) s1 (dom a b c d) (ab b)) s2 (dom a b c d) (ab c)) s3 (dom a b c d) (ab d)) fe (dom a b c d) li else (1 : Int) else lea (lea (lea (lea (1048576 : Int) s0 (dom a b c d) (ab a)) s1 (dom a b c d) (ab b)) s2 (dom a b c d) (ab c)) s3 (dom a b c d) (ab d)))))) (.bad 116) : Tr AV).val = some (.one (.v false (.int .i64 (bif kv0 n0 d0 s0 a0 j0 l0 h0 n1 d1 s1 a1 j1 l1 h1 n2 d2 s2 a2 j2 l2 h2 n3 d3 s3 a3 j3 l3 h3 xy tk && dval a b c d then spV s0 s1 s2 s3 a b c d li fe else 0)))) := by
  show cond _ _ _ = _
  cases hk : kv0 n0 d0 s0 a0 j0 l0 h0 n1 d1 s1 a1 j1 l1 h1 n2 d2 s2 a2 j2 l2 h2 n3 d3 s3 a3 j3 l3 h3 xy tk
  · simp only [Bool.not_false, cond_true, Bool.false_and, cond_false, Tr.val]
  · cases hd : dval a b c d
    · simp only [Bool.not_true, Bool.not_false, cond_true, cond_false, Bool.and_false, Tr.val]
    · have hn := dom_in a b c d
      obtain ⟨e0, e1, e2, e3, _⟩ := dv_iff.1 hd
      obtain ⟨⟨_, _, _, _, _, _, _, _⟩, ⟨_, _, _, _, _, _, _, _⟩, ⟨_, _, _, _, _, _, _, _⟩⟩ := kv_spec hk
      have za := ab_eq 16777216 (x := a) (by omega) e0.2
      have sa : inS a = true := inS_of (by omega) (by omega)
      have ra : inR (ab a) = true := inR_of (by omega) (by omega)
      have zb := ab_eq 16777216 (x := b) (by omega) e1.2
      have sb : inS b = true := inS_of (by omega) (by omega)
      have rb : inR (ab b) = true := inR_of (by omega) (by omega)
      have zc := ab_eq 16777216 (x := c) (by omega) e2.2
      have sc : inS c = true := inS_of (by omega) (by omega)
      have rc : inR (ab c) = true := inR_of (by omega) (by omega)
      have zd := ab_eq 16777216 (x := d) (by omega) e3.2
      have sd : inS d = true := inS_of (by omega) (by omega)
      have rd : inR (ab d) = true := inR_of (by omega) (by omega)
      have rn : inR (dom a b c d) = true := inR_of (by omega) (by omega)
      have q0 : inR s0 = true := inR_of (by omega) (by omega)
      have q1 : inR s1 = true := inR_of (by omega) (by omega)
      have q2 : inR s2 = true := inR_of (by omega) (by omega)
      have q3 : inR s3 = true := inR_of (by omega) (by omega)
      have hl : inR li = true := by revert hc; cases inR li <;> simp
      have hf : inR fe = true := by revert hc; cases inR fe <;> simp
      simp only [sa, ra, sb, rb, sc, rc, sd, rd, rn, q0, q1, q2, q3, hl, hf, spV, spE, Bool.not_true, cond_false, cond_true, Bool.and_self, Bool.true_and, cond_same, Tr.val]
      all_goals rfl
def spd_p3 (z_3 : AV) (n0 : Int) (d0 : Int) (s0 : Int) (a0 : Int) (j0 : Int) (l0 : Int) (h0 : Int) (n1 : Int) (d1 : Int) (s1 : Int) (a1 : Int) (j1 : Int) (l1 : Int) (h1 : Int) (n2 : Int) (d2 : Int) (s2 : Int) (a2 : Int) (j2 : Int) (l2 : Int) (h2 : Int) (n3 : Int) (d3 : Int) (s3 : Int) (a3 : Int) (j3 : Int) (l3 : Int) (h3 : Int) (xy : Bool) (tk : Int) (a : Int) (b : Int) (c : Int) (d : Int) (li : Int) : Option (Tr AV) :=
  match z_3 with
  | .one (.v _ (.int .i64 fe)) => some (.br (inR li && inR fe) (.ret (.one (.v false (.int .i64 (bif kv0 n0 d0 s0 a0 j0 l0 h0 n1 d1 s1 a1 j1 l1 h1 n2 d2 s2 a2 j2 l2 h2 n3 d3 s3 a3 j3 l3 h3 xy tk && dval a b c d then spV s0 s1 s2 s3 a b c d li fe else 0))))) (.bad 900))
  | _ => none
def spd_p2 (z_2 : AV) (z_3 : AV) (n0 : Int) (d0 : Int) (s0 : Int) (a0 : Int) (j0 : Int) (l0 : Int) (h0 : Int) (n1 : Int) (d1 : Int) (s1 : Int) (a1 : Int) (j1 : Int) (l1 : Int) (h1 : Int) (n2 : Int) (d2 : Int) (s2 : Int) (a2 : Int) (j2 : Int) (l2 : Int) (h2 : Int) (n3 : Int) (d3 : Int) (s3 : Int) (a3 : Int) (j3 : Int) (l3 : Int) (h3 : Int) (xy : Bool) (tk : Int) (a : Int) (b : Int) (c : Int) (d : Int) : Option (Tr AV) :=
  match z_2 with
  | .one (.v _ (.int .i64 li)) => spd_p3 z_3 n0 d0 s0 a0 j0 l0 h0 n1 d1 s1 a1 j1 l1 h1 n2 d2 s2 a2 j2 l2 h2 n3 d3 s3 a3 j3 l3 h3 xy tk a b c d li
  | _ => none
def spd_p1 (z_1 : AV) (z_2 : AV) (z_3 : AV) (n0 : Int) (d0 : Int) (s0 : Int) (a0 : Int) (j0 : Int) (l0 : Int) (h0 : Int) (n1 : Int) (d1 : Int) (s1 : Int) (a1 : Int) (j1 : Int) (l1 : Int) (h1 : Int) (n2 : Int) (d2 : Int) (s2 : Int) (a2 : Int) (j2 : Int) (l2 : Int) (h2 : Int) (n3 : Int) (d3 : Int) (s3 : Int) (a3 : Int) (j3 : Int) (l3 : Int) (h3 : Int) (xy : Bool) (tk : Int) : Option (Tr AV) :=
  match z_1 with
  | .ag [.v _ (.int .i64 a), .v _ (.int .i64 b), .v _ (.int .i64 c), .v _ (.int .i64 d)] => spd_p2 z_2 z_3 n0 d0 s0 a0 j0 l0 h0 n1 d1 s1 a1 j1 l1 h1 n2 d2 s2 a2 j2 l2 h2 n3 d3 s3 a3 j3 l3 h3 xy tk a b c d
  | _ => none
def spd_p0 (z_0 : AV) (z_1 : AV) (z_2 : AV) (z_3 : AV)  : Option (Tr AV) :=
  match z_0 with
  | .ag [.v _ (.int .i64 n0), .v _ (.int .i64 d0), .v _ (.int .i64 s0), .v _ (.int .i64 a0), .v _ (.int .i64 j0), .v _ (.int .i64 l0), .v _ (.int .i64 h0), .v _ (.int .i64 n1), .v _ (.int .i64 d1), .v _ (.int .i64 s1), .v _ (.int .i64 a1), .v _ (.int .i64 j1), .v _ (.int .i64 l1), .v _ (.int .i64 h1), .v _ (.int .i64 n2), .v _ (.int .i64 d2), .v _ (.int .i64 s2), .v _ (.int .i64 a2), .v _ (.int .i64 j2), .v _ (.int .i64 l2), .v _ (.int .i64 h2), .v _ (.int .i64 n3), .v _ (.int .i64 d3), .v _ (.int .i64 s3), .v _ (.int .i64 a3), .v _ (.int .i64 j3), .v _ (.int .i64 l3), .v _ (.int .i64 h3), .v _ (.bool xy), .v _ (.int .i64 tk)] => spd_p1 z_1 z_2 z_3 n0 d0 s0 a0 j0 l0 h0 n1 d1 s1 a1 j1 l1 h1 n2 d2 s2 a2 j2 l2 h2 n3 d3 s3 a3 j3 l3 h3 xy tk
  | _ => none
def spd_g : List AV → Option (Tr AV)
  | [z_0, z_1, z_2, z_3] => spd_p0 z_0 z_1 z_2 z_3
  | _ => none
set_option maxHeartbeats 4000000 in
theorem spd_ok : FunOK Try.prog 5 spd_g := by
  refine fun_ok (by kernel_rfl) (lmB_S81_ok) (L0_ok _) 9 (On := (opens [])) (fun args t h => ?_)
  unfold spd_g at h
  split at h
  rotate_left
  · cases h
  unfold spd_p0 at h
  split at h
  rotate_left
  · cases h
  rename_i _ n0 _ d0 _ s0 _ a0 _ j0 _ l0 _ h0 _ n1 _ d1 _ s1 _ a1 _ j1 _ l1 _ h1 _ n2 _ d2 _ s2 _ a2 _ j2 _ l2 _ h2 _ n3 _ d3 _ s3 _ a3 _ j3 _ l3 _ h3 _ xy _ tk
  unfold spd_p1 at h
  split at h
  rotate_left
  · cases h
  rename_i _ a _ b _ c _ d
  unfold spd_p2 at h
  split at h
  rotate_left
  · cases h
  rename_i _ li
  unfold spd_p3 at h
  split at h
  rotate_left
  · cases h
  rename_i _ fe
  simp only [Option.some.injEq] at h
  subst h
  refine ⟨[.ag [.v false (.int .i64 n0), .v false (.int .i64 d0), .v false (.int .i64 s0), .v false (.int .i64 a0), .v false (.int .i64 j0), .v false (.int .i64 l0), .v false (.int .i64 h0), .v false (.int .i64 n1), .v false (.int .i64 d1), .v false (.int .i64 s1), .v false (.int .i64 a1), .v false (.int .i64 j1), .v false (.int .i64 l1), .v false (.int .i64 h1), .v false (.int .i64 n2), .v false (.int .i64 d2), .v false (.int .i64 s2), .v false (.int .i64 a2), .v false (.int .i64 j2), .v false (.int .i64 l2), .v false (.int .i64 h2), .v false (.int .i64 n3), .v false (.int .i64 d3), .v false (.int .i64 s3), .v false (.int .i64 a3), .v false (.int .i64 j3), .v false (.int .i64 l3), .v false (.int .i64 h3), .v false (.bool xy), .v false (.int .i64 tk)], .ag [.v false (.int .i64 a), .v false (.int .i64 b), .v false (.int .i64 c), .v false (.int .i64 d)], .one (.v false (.int .i64 li)), .one (.v false (.int .i64 fe))], rfl, fun fr w us h => h, fun r hr => ?_⟩
  obtain ⟨hc, hr⟩ := br_bad hr
  simp only [Tr.val, Option.some.injEq] at hr
  subst hr
  rw [spd_tree]
  exact spd_val n0 d0 s0 a0 j0 l0 h0 n1 d1 s1 a1 j1 l1 h1 n2 d2 s2 a2 j2 l2 h2 n3 d3 s3 a3 j3 l3 h3 xy tk a b c d li fe hc
def lmD_S81 : Sums := addS 5 spd_g lmB_S81
theorem lmD_S81_ok : SumOK Try.prog lmD_S81 := addS_ok (spd_ok) (lmB_S81_ok)
end Go.Proofs.Ytaccdpdabmchkaa
