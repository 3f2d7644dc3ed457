/-
  Layer 7: Volume6 of both.
-/
import Derived.Test.YtbagcmeeiiohpaaProg
import Derived.Test.YtbagcmeeiiohpaaFvX
import Derived.Test.YtbagcmeeiiohpaaFvZ
import Derived.Test.YtbagcmeeiiohpaaAut
import Derived.Test.YtbagcmeeiiohpaaRd
import Derived.Test.YtbagcmeeiiohpaaPl
import Derived.Test.YtbagcmeeiiohpaaSeA
import Derived.Test.YtbagcmeeiiohpaaSeB
import Derived.Test.YtbagcmeeiiohpaaSeC
import Derived.Test.YtbagcmeeiiohpaaSeD
import Derived.Test.YtbagcmeeiiohpaaMeW
namespace Go.Proofs.Ytbagcmeeiiohpaa
open Go
def wit (a b c k : Int) : Bool := bif bif bif bif bif decide (IntKind.wrap IntKind.i64 ((0 : Int) - k) ≤ a) then decide (a ≤ k) else false then decide (IntKind.wrap IntKind.i64 ((0 : Int) - k) ≤ b) else false then decide (b ≤ k) else false then decide (IntKind.wrap IntKind.i64 ((0 : Int) - k) ≤ c) else false then decide (c ≤ k) else false
def prd (a b c d : Int) : Int := IntKind.wrap IntKind.i64 (IntKind.wrap IntKind.i64 (a * b) - IntKind.wrap IntKind.i64 (c * d))
def crs3 (p q : Int × (Int × Int)) : Int × (Int × Int) := bif bif !wit p.1 p.2.1 p.2.2 (131072 : Int) then true else !wit q.1 q.2.1 q.2.2 (131072 : Int) then (0, (0, 0)) else (prd p.2.1 q.2.2 p.2.2 q.2.1, (prd p.2.2 q.1 p.1 q.2.2, prd p.1 q.2.1 p.2.1 q.1))
set_option maxRecDepth 100000 in
theorem wia_tree (a : Int) (b : Int) (c : Int) (k : Int) : evalF Try.prog meW_S52 (opens []) seD_L51 9 51 [.ag [.v false (.int .i64 a), .v false (.int .i64 b), .v false (.int .i64 c)], .one (.v false (.int .i64 k))] = .ret (.one (.v false (.bool (bif bif bif bif bif decide (IntKind.wrap IntKind.i64 ((0 : Int) - k) ≤ a) then decide (a ≤ k) else false then decide (IntKind.wrap IntKind.i64 ((0 : Int) - k) ≤ b) else false then decide (b ≤ k) else false then decide (IntKind.wrap IntKind.i64 ((0 : Int) - k) ≤ c) else false then decide (c ≤ k) else false)))) := by kernel_rfl
set_option maxHeartbeats 4000000 in
theorem wia_val (a : Int) (b : Int) (c : Int) (k : Int) : (.ret (.one (.v false (.bool (bif bif bif bif bif decide (IntKind.wrap IntKind.i64 ((0 : Int) - k) ≤ a) then decide (a ≤ k) else false then decide (IntKind.wrap IntKind.i64 ((0 : Int) - k) ≤ b) else false then decide (b ≤ k) else false then decide (IntKind.wrap IntKind.i64 ((0 : Int) - k) ≤ c) else false then decide (c ≤ k) else false)))) : Tr AV).val = some (.one (.v false (.bool (wit a b c k)))) := by
  rfl
noncomputable def wia_g : List AV → Option (Tr AV)
  | [.ag [.v _ (.int .i64 a), .v _ (.int .i64 b), .v _ (.int .i64 c)], .one (.v _ (.int .i64 k))] => some (.ret (.one (.v false (.bool (wit a b c k)))))
  | _ => none
set_option maxHeartbeats 4000000 in
theorem wia_ok : FunOK Try.prog 51 wia_g := by
  refine fun_ok (by kernel_rfl) (meW_S52_ok) (seD_L51_ok) 9 (On := (opens [])) (fun args t h => ?_)
  unfold wia_g at h
  split at h
  · rename_i _ a _ b _ c _ k
    simp only [Option.some.injEq] at h
    subst h
    refine ⟨[.ag [.v false (.int .i64 a), .v false (.int .i64 b), .v false (.int .i64 c)], .one (.v false (.int .i64 k))], rfl, fun fr w us h => h, fun r hr => ?_⟩
    simp only [Tr.val, Option.some.injEq] at hr
    subst hr
    rw [wia_tree]
    exact wia_val a b c k
  · cases h
noncomputable def mbA_S51 : Sums := addS 51 wia_g meW_S52
theorem mbA_S51_ok : SumOK Try.prog mbA_S51 := addS_ok (wia_ok) (meW_S52_ok)
set_option maxRecDepth 100000 in
theorem wib_tree (a : Int) (b : Int) (c : Int) (k : Int) : evalF Try.prog mbA_S51 (opens []) seD_L51 9 59 [.ag [.v false (.int .i64 a), .v false (.int .i64 b), .v false (.int .i64 c)], .one (.v false (.int .i64 k))] = .ret (.one (.v false (.bool (bif bif bif bif bif decide (a ≥ IntKind.wrap IntKind.i64 ((0 : Int) - k)) then decide (a ≤ k) else false then decide (b ≥ IntKind.wrap IntKind.i64 ((0 : Int) - k)) else false then decide (b ≤ k) else false then decide (c ≥ IntKind.wrap IntKind.i64 ((0 : Int) - k)) else false then decide (c ≤ k) else false)))) := by kernel_rfl
set_option maxHeartbeats 4000000 in
theorem wib_val (a : Int) (b : Int) (c : Int) (k : Int) : (.ret (.one (.v false (.bool (bif bif bif bif bif decide (a ≥ IntKind.wrap IntKind.i64 ((0 : Int) - k)) then decide (a ≤ k) else false then decide (b ≥ IntKind.wrap IntKind.i64 ((0 : Int) - k)) else false then decide (b ≤ k) else false then decide (c ≥ IntKind.wrap IntKind.i64 ((0 : Int) - k)) else false then decide (c ≤ k) else false)))) : Tr AV).val = some (.one (.v false (.bool (wit a b c k)))) := by
  rfl
noncomputable def wib_g : List AV → Option (Tr AV)
  | [.ag [.v _ (.int .i64 a), .v _ (.int .i64 b), .v _ (.int .i64 c)], .one (.v _ (.int .i64 k))] => some (.ret (.one (.v false (.bool (wit a b c k)))))
  | _ => none
set_option maxHeartbeats 4000000 in
theorem wib_ok : FunOK Try.prog 59 wib_g := by
  refine fun_ok (by kernel_rfl) (mbA_S51_ok) (seD_L51_ok) 9 (On := (opens [])) (fun args t h => ?_)
  unfold wib_g at h
  split at h
  · rename_i _ a _ b _ c _ k
    simp only [Option.some.injEq] at h
    subst h
    refine ⟨[.ag [.v false (.int .i64 a), .v false (.int .i64 b), .v false (.int .i64 c)], .one (.v false (.int .i64 k))], rfl, fun fr w us h => h, fun r hr => ?_⟩
    simp only [Tr.val, Option.some.injEq] at hr
    subst hr
    rw [wib_tree]
    exact wib_val a b c k
  · cases h
noncomputable def mbA_S52 : Sums := addS 59 wib_g mbA_S51
theorem mbA_S52_ok : SumOK Try.prog mbA_S52 := addS_ok (wib_ok) (mbA_S51_ok)
set_option maxRecDepth 100000 in
theorem cva_tree (a : Int) (b : Int) (c : Int) (d : Int) (e : Int) (f : Int) : evalF Try.prog mbA_S52 (opens []) seD_L51 9 40 [.ag [.v false (.int .i64 a), .v false (.int .i64 b), .v false (.int .i64 c)], .ag [.v false (.int .i64 d), .v false (.int .i64 e), .v false (.int .i64 f)]] = .ret (.ag [.v false (.int .i64 (bif bif !wit a b c (131072 : Int) then true else !wit d e f (131072 : Int) then (0 : Int) else IntKind.wrap IntKind.i64 (IntKind.wrap IntKind.i64 (b * f) - IntKind.wrap IntKind.i64 (c * e)))), .v false (.int .i64 (bif bif !wit a b c (131072 : Int) then true else !wit d e f (131072 : Int) then (0 : Int) else IntKind.wrap IntKind.i64 (IntKind.wrap IntKind.i64 (c * d) - IntKind.wrap IntKind.i64 (a * f)))), .v false (.int .i64 (bif bif !wit a b c (131072 : Int) then true else !wit d e f (131072 : Int) then (0 : Int) else IntKind.wrap IntKind.i64 (IntKind.wrap IntKind.i64 (a * e) - IntKind.wrap IntKind.i64 (b * d))))]) := by kernel_rfl
set_option maxHeartbeats 4000000 in
theorem cva_val (a : Int) (b : Int) (c : Int) (d : Int) (e : Int) (f : Int) : (.ret (.ag [.v false (.int .i64 (bif bif !wit a b c (131072 : Int) then true else !wit d e f (131072 : Int) then (0 : Int) else IntKind.wrap IntKind.i64 (IntKind.wrap IntKind.i64 (b * f) - IntKind.wrap IntKind.i64 (c * e)))), .v false (.int .i64 (bif bif !wit a b c (131072 : Int) then true else !wit d e f (131072 : Int) then (0 : Int) else IntKind.wrap IntKind.i64 (IntKind.wrap IntKind.i64 (c * d) - IntKind.wrap IntKind.i64 (a * f)))), .v false (.int .i64 (bif bif !wit a b c (131072 : Int) then true else !wit d e f (131072 : Int) then (0 : Int) else IntKind.wrap IntKind.i64 (IntKind.wrap IntKind.i64 (a * e) - IntKind.wrap IntKind.i64 (b * d))))]) : Tr AV).val = some (.ag [.v false (.int .i64 (crs3 (a, (b, c)) (d, (e, f))).1), .v false (.int .i64 (crs3 (a, (b, c)) (d, (e, f))).2.1), .v false (.int .i64 (crs3 (a, (b, c)) (d, (e, f))).2.2)]) := by
  unfold crs3 prd
  dsimp only
  cases (bif !wit a b c 131072 then true else !wit d e f 131072) <;> rfl
noncomputable def cva_g : List AV → Option (Tr AV)
  | [.ag [.v _ (.int .i64 a), .v _ (.int .i64 b), .v _ (.int .i64 c)], .ag [.v _ (.int .i64 d), .v _ (.int .i64 e), .v _ (.int .i64 f)]] => some (.ret (.ag [.v false (.int .i64 (crs3 (a, (b, c)) (d, (e, f))).1), .v false (.int .i64 (crs3 (a, (b, c)) (d, (e, f))).2.1), .v false (.int .i64 (crs3 (a, (b, c)) (d, (e, f))).2.2)]))
  | _ => none
set_option maxHeartbeats 4000000 in
theorem cva_ok : FunOK Try.prog 40 cva_g := by
  refine fun_ok (by kernel_rfl) (mbA_S52_ok) (seD_L51_ok) 9 (On := (opens [])) (fun args t h => ?_)
  unfold cva_g at h
  split at h
  · rename_i _ a _ b _ c _ d _ e _ f
    simp only [Option.some.injEq] at h
    subst h
    refine ⟨[.ag [.v false (.int .i64 a), .v false (.int .i64 b), .v false (.int .i64 c)], .ag [.v false (.int .i64 d), .v false (.int .i64 e), .v false (.int .i64 f)]], rfl, fun fr w us h => h, fun r hr => ?_⟩
    simp only [Tr.val, Option.some.injEq] at hr
    subst hr
    rw [cva_tree]
    exact cva_val a b c d e f
  · cases h
noncomputable def mbA_S53 : Sums := addS 40 cva_g mbA_S52
theorem mbA_S53_ok : SumOK Try.prog mbA_S53 := addS_ok (cva_ok) (mbA_S52_ok)
set_option maxRecDepth 100000 in
theorem cvb_tree (a : Int) (b : Int) (c : Int) (d : Int) (e : Int) (f : Int) : evalF Try.prog mbA_S53 (opens []) seD_L51 9 50 [.ag [.v false (.int .i64 a), .v false (.int .i64 b), .v false (.int .i64 c)], .ag [.v false (.int .i64 d), .v false (.int .i64 e), .v false (.int .i64 f)]] = .ret (.ag [.v false (.int .i64 (bif bif !wit a b c (131072 : Int) then true else !wit d e f (131072 : Int) then (0 : Int) else IntKind.wrap IntKind.i64 (IntKind.wrap IntKind.i64 (b * f) - IntKind.wrap IntKind.i64 (c * e)))), .v false (.int .i64 (bif bif !wit a b c (131072 : Int) then true else !wit d e f (131072 : Int) then (0 : Int) else IntKind.wrap IntKind.i64 (IntKind.wrap IntKind.i64 (c * d) - IntKind.wrap IntKind.i64 (a * f)))), .v false (.int .i64 (bif bif !wit a b c (131072 : Int) then true else !wit d e f (131072 : Int) then (0 : Int) else IntKind.wrap IntKind.i64 (IntKind.wrap IntKind.i64 (a * e) - IntKind.wrap IntKind.i64 (b * d))))]) := by kernel_rfl
set_option maxHeartbeats 4000000 in
theorem cvb_val (a : Int) (b : Int) (c : Int) (d : Int) (e : Int) (f : Int) : (.ret (.ag [.v false (.int .i64 (bif bif !wit a b c (131072 : Int) then true else !wit d e f (131072 : Int) then (0 : Int) else IntKind.wrap IntKind.i64 (IntKind.wrap IntKind.i64 (b * f) - IntKind.wrap IntKind.i64 (c * e)))), .v false (.int .i64 (bif bif !wit a b c (131072 : Int) then true else !wit d e f (131072 : Int) then (0 : Int) else IntKind.wrap IntKind.i64 (IntKind.wrap IntKind.i64 (c * d) - IntKind.wrap IntKind.i64 (a * f)))), .v false (.int .i64 (bif bif !wit a b c (131072 : Int) then true else !wit d e f (131072 : Int) then (0 : Int) else IntKind.wrap IntKind.i64 (IntKind.wrap IntKind.i64 (a * e) - IntKind.wrap IntKind.i64 (b * d))))]) : Tr AV).val = some (.ag [.v false (.int .i64 (crs3 (a, (b, c)) (d, (e, f))).1), .v false (.int .i64 (crs3 (a, (b, c)) (d, (e, f))).2.1), .v false (.int .i64 (crs3 (a, (b, c)) (d, (e, f))).2.2)]) := by
  unfold crs3 prd
  dsimp only
  cases (bif !wit a b c 131072 then true else !wit d e f 131072) <;> rfl
noncomputable def cvb_g : List AV → Option (Tr AV)
  | [.ag [.v _ (.int .i64 a), .v _ (.int .i64 b), .v _ (.int .i64 c)], .ag [.v _ (.int .i64 d), .v _ (.int .i64 e), .v _ (.int .i64 f)]] => some (.ret (.ag [.v false (.int .i64 (crs3 (a, (b, c)) (d, (e, f))).1), .v false (.int .i64 (crs3 (a, (b, c)) (d, (e, f))).2.1), .v false (.int .i64 (crs3 (a, (b, c)) (d, (e, f))).2.2)]))
  | _ => none
set_option maxHeartbeats 4000000 in
theorem cvb_ok : FunOK Try.prog 50 cvb_g := by
  refine fun_ok (by kernel_rfl) (mbA_S53_ok) (seD_L51_ok) 9 (On := (opens [])) (fun args t h => ?_)
  unfold cvb_g at h
  split at h
  · rename_i _ a _ b _ c _ d _ e _ f
    simp only [Option.some.injEq] at h
    subst h
    refine ⟨[.ag [.v false (.int .i64 a), .v false (.int .i64 b), .v false (.int .i64 c)], .ag [.v false (.int .i64 d), .v false (.int .i64 e), .v false (.int .i64 f)]], rfl, fun fr w us h => h, fun r hr => ?_⟩
    simp only [Tr.val, Option.some.injEq] at hr
    subst hr
    rw [cvb_tree]
    exact cvb_val a b c d e f
  · cases h
noncomputable def mbA_S54 : Sums := addS 50 cvb_g mbA_S53
theorem mbA_S54_ok : SumOK Try.prog mbA_S54 := addS_ok (cvb_ok) (mbA_S53_ok)
def dot3 (p q : Int × (Int × Int)) : Int := bif bif !wit p.1 p.2.1 p.2.2 (131072 : Int) then true else !wit q.1 q.2.1 q.2.2 (1099511627776 : Int) then (0 : Int) else IntKind.wrap IntKind.i64 (IntKind.wrap IntKind.i64 (IntKind.wrap IntKind.i64 (p.1 * q.1) + IntKind.wrap IntKind.i64 (p.2.1 * q.2.1)) + IntKind.wrap IntKind.i64 (p.2.2 * q.2.2))
def det (p q r : Int × (Int × Int)) : Int := p.1 * (q.2.1 * r.2.2 - q.2.2 * r.2.1) + p.2.1 * (q.2.2 * r.1 - q.1 * r.2.2) + p.2.2 * (q.1 * r.2.1 - q.2.1 * r.1)
def vt (V : List (Int × (Int × Int))) (t : Int × (Int × Int)) : Int := det (el_iii V t.1) (el_iii V t.2.1) (el_iii V t.2.2)
def vsum (V : List (Int × (Int × Int))) : List (Int × (Int × Int)) → Int
  | [] => 0
  | t :: T => vt V t + vsum V T
def vol (V T : List (Int × (Int × Int))) : Int := bif chk V T != (0 : Int) then 0 else vsum V T
set_option maxRecDepth 100000 in
theorem dota_tree (a : Int) (b : Int) (c : Int) (d : Int) (e : Int) (f : Int) : evalF Try.prog mbA_S54 (opens []) seD_L51 9 47 [.ag [.v false (.int .i64 a), .v false (.int .i64 b), .v false (.int .i64 c)], .ag [.v false (.int .i64 d), .v false (.int .i64 e), .v false (.int .i64 f)]] = .ret (.one (.v false (.int .i64 (bif bif !wit a b c (131072 : Int) then true else !wit d e f (1099511627776 : Int) then (0 : Int) else IntKind.wrap IntKind.i64 (IntKind.wrap IntKind.i64 (IntKind.wrap IntKind.i64 (a * d) + IntKind.wrap IntKind.i64 (b * e)) + IntKind.wrap IntKind.i64 (c * f)))))) := by kernel_rfl
set_option maxHeartbeats 4000000 in
theorem dota_val (a : Int) (b : Int) (c : Int) (d : Int) (e : Int) (f : Int) : (.ret (.one (.v false (.int .i64 (bif bif !wit a b c (131072 : Int) then true else !wit d e f (1099511627776 : Int) then (0 : Int) else IntKind.wrap IntKind.i64 (IntKind.wrap IntKind.i64 (IntKind.wrap IntKind.i64 (a * d) + IntKind.wrap IntKind.i64 (b * e)) + IntKind.wrap IntKind.i64 (c * f)))))) : Tr AV).val = some (.one (.v false (.int .i64 (dot3 (a, (b, c)) (d, (e, f)))))) := by
  rfl
noncomputable def dota_g : List AV → Option (Tr AV)
  | [.ag [.v _ (.int .i64 a), .v _ (.int .i64 b), .v _ (.int .i64 c)], .ag [.v _ (.int .i64 d), .v _ (.int .i64 e), .v _ (.int .i64 f)]] => some (.ret (.one (.v false (.int .i64 (dot3 (a, (b, c)) (d, (e, f)))))))
  | _ => none
set_option maxHeartbeats 4000000 in
theorem dota_ok : FunOK Try.prog 47 dota_g := by
  refine fun_ok (by kernel_rfl) (mbA_S54_ok) (seD_L51_ok) 9 (On := (opens [])) (fun args t h => ?_)
  unfold dota_g at h
  split at h
  · rename_i _ a _ b _ c _ d _ e _ f
    simp only [Option.some.injEq] at h
    subst h
    refine ⟨[.ag [.v false (.int .i64 a), .v false (.int .i64 b), .v false (.int .i64 c)], .ag [.v false (.int .i64 d), .v false (.int .i64 e), .v false (.int .i64 f)]], rfl, fun fr w us h => h, fun r hr => ?_⟩
    simp only [Tr.val, Option.some.injEq] at hr
    subst hr
    rw [dota_tree]
    exact dota_val a b c d e f
  · cases h
noncomputable def mbA_S55 : Sums := addS 47 dota_g mbA_S54
theorem mbA_S55_ok : SumOK Try.prog mbA_S55 := addS_ok (dota_ok) (mbA_S54_ok)
set_option maxRecDepth 100000 in
theorem deta_tree (a : Int) (b : Int) (c : Int) (d : Int) (e : Int) (f : Int) (g : Int) (h : Int) (i : Int) : evalF Try.prog mbA_S55 (opens []) seD_L51 9 30 [.ag [.v false (.int .i64 a), .v false (.int .i64 b), .v false (.int .i64 c)], .ag [.v false (.int .i64 d), .v false (.int .i64 e), .v false (.int .i64 f)], .ag [.v false (.int .i64 g), .v false (.int .i64 h), .v false (.int .i64 i)]] = .ret (.one (.v false (.int .i64 (dot3 (a, b, c) (Prod.fst (crs3 (d, e, f) (g, h, i)), Prod.fst (Prod.snd (crs3 (d, e, f) (g, h, i))), Prod.snd (Prod.snd (crs3 (d, e, f) (g, h, i)))))))) := by kernel_rfl
set_option maxHeartbeats 4000000 in
theorem deta_val (a : Int) (b : Int) (c : Int) (d : Int) (e : Int) (f : Int) (g : Int) (h : Int) (i : Int) : (.ret (.one (.v false (.int .i64 (dot3 (a, b, c) (Prod.fst (crs3 (d, e, f) (g, h, i)), Prod.fst (Prod.snd (crs3 (d, e, f) (g, h, i))), Prod.snd (Prod.snd (crs3 (d, e, f) (g, h, i)))))))) : Tr AV).val = some (.one (.v false (.int .i64 (dot3 (a, (b, c)) (crs3 (d, (e, f)) (g, (h, i))))))) := by
  rfl
noncomputable def deta_g : List AV → Option (Tr AV)
  | [.ag [.v _ (.int .i64 a), .v _ (.int .i64 b), .v _ (.int .i64 c)], .ag [.v _ (.int .i64 d), .v _ (.int .i64 e), .v _ (.int .i64 f)], .ag [.v _ (.int .i64 g), .v _ (.int .i64 h), .v _ (.int .i64 i)]] => some (.ret (.one (.v false (.int .i64 (dot3 (a, (b, c)) (crs3 (d, (e, f)) (g, (h, i))))))))
  | _ => none
set_option maxHeartbeats 4000000 in
theorem deta_ok : FunOK Try.prog 30 deta_g := by
  refine fun_ok (by kernel_rfl) (mbA_S55_ok) (seD_L51_ok) 9 (On := (opens [])) (fun args t h => ?_)
  unfold deta_g at h
  split at h
  · rename_i _ a _ b _ c _ d _ e _ f _ g _ h _ i
    simp only [Option.some.injEq] at h
    subst h
    refine ⟨[.ag [.v false (.int .i64 a), .v false (.int .i64 b), .v false (.int .i64 c)], .ag [.v false (.int .i64 d), .v false (.int .i64 e), .v false (.int .i64 f)], .ag [.v false (.int .i64 g), .v false (.int .i64 h), .v false (.int .i64 i)]], rfl, fun fr w us h => h, fun r hr => ?_⟩
    simp only [Tr.val, Option.some.injEq] at hr
    subst hr
    rw [deta_tree]
    exact deta_val a b c d e f g h i
  · cases h
noncomputable def mbA_S56 : Sums := addS 30 deta_g mbA_S55
theorem mbA_S56_ok : SumOK Try.prog mbA_S56 := addS_ok (deta_ok) (mbA_S55_ok)
abbrev vlm_U : Type := Int × (Ty.list (.prod (.int .i64) (.prod (.int .i64) (.int .i64)))).den × Int × (Ty.list (.prod (.int .i64) (.prod (.int .i64) (.int .i64)))).den × (Ty.list (.prod (.int .i64) (.prod (.int .i64) (.int .i64)))).den
abbrev vlm_V : Type := Int × Int
noncomputable def vlm_St (u : vlm_U) (v : vlm_V) : Stt := ⟨[.one .junk, .one (.p 0 0), .one (.v false (.int .i64 u.1)), .one (.v false (.int .i64 v.1)), .one .junk, .one .junk, .one .junk, .one .junk, .one .junk, .one .junk, .one (.d false false (.prod (.int .i64) (.prod (.int .i64) (.int .i64))) u.2.1), .one (.v false (.int .i64 u.2.2.1)), .one (.v false (.int .i64 v.2)), .one .junk, .one .junk, .one .junk, .one .junk, .one .junk, .one .junk, .one .junk, .one .junk, .one .junk, .one .junk, .one .junk, .one .junk, .one .junk, .one .junk, .one .junk, .one .junk, .one .junk, .one .junk, .one .junk, .one .junk, .one .junk, .one .junk, .one .junk, .one .junk, .one .junk, .one .junk], [(0, .cells [.d false false (.prod (.int .i64) (.prod (.int .i64) (.int .i64))) u.2.2.2.1, .d false false (.prod (.int .i64) (.prod (.int .i64) (.int .i64))) u.2.2.2.2])], 1010⟩
noncomputable def vlm_step (u : vlm_U) (v : vlm_V) : Tr (vlm_V ⊕ (Nat × vlm_V)) :=
  match u, v with
  | (_, q2, q3, q5, _), (q1, q4) => .br (decide (q4 < q3)) (.br (decide ((0 : Int) ≤ q4) && decide (q4 < (↑(List.length q2) : Int))) (.br (decide ((0 : Int) ≤ Prod.fst (el_iii q2 q4)) && decide (Prod.fst (el_iii q2 q4) < (↑(List.length q5) : Int))) (.br (decide ((0 : Int) ≤ Prod.fst (Prod.snd (el_iii q2 q4))) && decide (Prod.fst (Prod.snd (el_iii q2 q4)) < (↑(List.length q5) : Int))) (.br (decide ((0 : Int) ≤ Prod.snd (Prod.snd (el_iii q2 q4))) && decide (Prod.snd (Prod.snd (el_iii q2 q4)) < (↑(List.length q5) : Int))) (.ret (.inl (IntKind.wrap IntKind.i64 (q1 + dot3 (Prod.fst (el_iii q5 (Prod.fst (el_iii q2 q4))), Prod.fst (Prod.snd (el_iii q5 (Prod.fst (el_iii q2 q4)))), Prod.snd (Prod.snd (el_iii q5 (Prod.fst (el_iii q2 q4))))) (crs3 (Prod.fst (el_iii q5 (Prod.fst (Prod.snd (el_iii q2 q4)))), Prod.fst (Prod.snd (el_iii q5 (Prod.fst (Prod.snd (el_iii q2 q4))))), Prod.snd (Prod.snd (el_iii q5 (Prod.fst (Prod.snd (el_iii q2 q4)))))) (Prod.fst (el_iii q5 (Prod.snd (Prod.snd (el_iii q2 q4)))), Prod.fst (Prod.snd (el_iii q5 (Prod.snd (Prod.snd (el_iii q2 q4))))), Prod.snd (Prod.snd (el_iii q5 (Prod.snd (Prod.snd (el_iii q2 q4)))))))), IntKind.wrap IntKind.i64 (q4 + (1 : Int))))) (.bad 29)) (.bad 29)) (.bad 29)) (.bad 29)) (.ret (.inr (0, (q1, q4))))
set_option maxRecDepth 100000 in
set_option maxHeartbeats 4000000 in
theorem vlm_step_eq : ∀ (u : vlm_U) (v : vlm_V), (evalC Try.prog (evalB Try.prog mbA_S56 (opens []) seD_L51 7).1 (evalB Try.prog mbA_S56 (opens []) seD_L51 7).2 (opens []) (seD_L51 11) 100000 (0 :: [0, 1, 0, 1, 1, 1]) (loopOf (bodyOf Try.prog 11) [1, 1, 1, 0, 1, 0]) (vlm_St u v) []).bind (finF [0, 4, 5, 6, 7, 8, 9, 13, 14, 15, 16, 17, 18, 19, 20, 21, 22, 23, 24, 25, 26, 27, 28, 29, 30, 31, 32, 33, 34, 35, 36, 37, 38] [] [0] [] 1010) = (vlm_step u v).bind (outA (vlm_St u) [.exit 0]) := by
  rintro ⟨q0, q2, q3, q5, q6⟩ ⟨q1, q4⟩
  kernel_rfl
noncomputable def vlm_rd (b : Bool) (o1 : Option AV) (o2 : Option AV) (o3 : Option AV) (o10 : Option AV) (o11 : Option AV) (o12 : Option AV) (own : Own) : Option (vlm_U × vlm_V) := zrT b <| zrO o1 fun za1 => zrA1 za1 fun zc2 => zrP 0 0 zc2 <| zrO o2 fun za3 => zrA1 za3 fun zc4 => zrI .i64 zc4 fun q0 => zrO o3 fun za5 => zrA1 za5 fun zc6 => zrI .i64 zc6 fun q1 => zrO o10 fun za7 => zrA1 za7 fun zc8 => zrD (.prod (.int .i64) (.prod (.int .i64) (.int .i64))) zc8 fun q2 => zrO o11 fun za9 => zrA1 za9 fun zc10 => zrI .i64 zc10 fun q3 => zrO o12 fun za11 => zrA1 za11 fun zc12 => zrI .i64 zc12 fun q4 => zrL own fun zq13 zw14 => zrKey 0 zq13 fun zk15 => zrC zk15 fun zl16 => zrL zl16 fun zc17 zr18 => zrD (.prod (.int .i64) (.prod (.int .i64) (.int .i64))) zc17 fun q5 => zrL zr18 fun zc19 zr20 => zrD (.prod (.int .i64) (.prod (.int .i64) (.int .i64))) zc19 fun q6 => zrN zr20 <| zrN zw14 <| some ((q0, q2, q3, q5, q6), (q1, q4))
noncomputable def vlm_can (st : Stt) : Stt := canA [0, 4, 5, 6, 7, 8, 9, 13, 14, 15, 16, 17, 18, 19, 20, 21, 22, 23, 24, 25, 26, 27, 28, 29, 30, 31, 32, 33, 34, 35, 36, 37, 38] [] [0] [] 1010 st
noncomputable def vlm_cok (st : Stt) : Bool := canAok [0, 4, 5, 6, 7, 8, 9, 13, 14, 15, 16, 17, 18, 19, 20, 21, 22, 23, 24, 25, 26, 27, 28, 29, 30, 31, 32, 33, 34, 35, 36, 37, 38] [] [0] [] 1010 st
noncomputable def vlm_read (st : Stt) : Option (vlm_U × vlm_V) := vlm_rd (vlm_cok st && (staysA [] [0] st.own && juAll [0, 4, 5, 6, 7, 8, 9, 13, 14, 15, 16, 17, 18, 19, 20, 21, 22, 23, 24, 25, 26, 27, 28, 29, 30, 31, 32, 33, 34, 35, 36, 37, 38] (vlm_can st).tm 39)) (vlm_can st).tm[1]? (vlm_can st).tm[2]? (vlm_can st).tm[3]? (vlm_can st).tm[10]? (vlm_can st).tm[11]? (vlm_can st).tm[12]? (vlm_can st).own
set_option maxRecDepth 100000 in
set_option maxHeartbeats 4000000 in
theorem vlm_rd_ok {b : Bool} {tm : List AV} {own : Own} {u : vlm_U} {v : vlm_V} (hj : b = true → juAll [0, 4, 5, 6, 7, 8, 9, 13, 14, 15, 16, 17, 18, 19, 20, 21, 22, 23, 24, 25, 26, 27, 28, 29, 30, 31, 32, 33, 34, 35, 36, 37, 38] tm 39 = true) (h : vlm_rd b tm[1]? tm[2]? tm[3]? tm[10]? tm[11]? tm[12]? own = some (u, v)) : b = true ∧ tm = (vlm_St u v).tm ∧ own = (vlm_St u v).own := by
  unfold vlm_rd at h
  obtain ⟨rfl, h0⟩ := zrT_some h
  obtain ⟨za1, e1, h1⟩ := zrO_some h0
  obtain ⟨zc2, rfl, h2⟩ := zrA1_some h1
  obtain ⟨rfl, h3⟩ := zrP_some h2
  obtain ⟨za3, e2, h4⟩ := zrO_some h3
  obtain ⟨zc4, rfl, h5⟩ := zrA1_some h4
  obtain ⟨q0, rfl, h6⟩ := zrI_some h5
  obtain ⟨za5, e3, h7⟩ := zrO_some h6
  obtain ⟨zc6, rfl, h8⟩ := zrA1_some h7
  obtain ⟨q1, rfl, h9⟩ := zrI_some h8
  obtain ⟨za7, e10, h10⟩ := zrO_some h9
  obtain ⟨zc8, rfl, h11⟩ := zrA1_some h10
  obtain ⟨q2, rfl, h12⟩ := zrD_some h11
  obtain ⟨za9, e11, h13⟩ := zrO_some h12
  obtain ⟨zc10, rfl, h14⟩ := zrA1_some h13
  obtain ⟨q3, rfl, h15⟩ := zrI_some h14
  obtain ⟨za11, e12, h16⟩ := zrO_some h15
  obtain ⟨zc12, rfl, h17⟩ := zrA1_some h16
  obtain ⟨q4, rfl, h18⟩ := zrI_some h17
  obtain ⟨zq13, zw14, rfl, h19⟩ := zrL_some h18
  obtain ⟨zk15, rfl, h20⟩ := zrKey_some h19
  obtain ⟨zl16, rfl, h21⟩ := zrC_some h20
  obtain ⟨zc17, zr18, rfl, h22⟩ := zrL_some h21
  obtain ⟨q5, rfl, h23⟩ := zrD_some h22
  obtain ⟨zc19, zr20, rfl, h24⟩ := zrL_some h23
  obtain ⟨q6, rfl, h25⟩ := zrD_some h24
  obtain ⟨rfl, h26⟩ := zrN_some h25
  obtain ⟨rfl, h27⟩ := zrN_some h26
  have h := Option.some.inj h27
  have hu := congrArg Prod.fst h
  have hv := congrArg Prod.snd h
  dsimp only at hu hv
  subst hu
  subst hv
  exact ⟨rfl, (tm_fill (hj rfl) (Lv := [(1, .one (.p 0 0)), (2, .one (.v false (.int .i64 q0))), (3, .one (.v false (.int .i64 q1))), (10, .one (.d false false (.prod (.int .i64) (.prod (.int .i64) (.int .i64))) q2)), (11, .one (.v false (.int .i64 q3))), (12, .one (.v false (.int .i64 q4)))]) (by kernel_rfl) ⟨e1, e2, e3, e10, e11, e12, trivial⟩).trans (by kernel_rfl), rfl⟩
theorem vlm_read_ok (st : Stt) (u : vlm_U) (v : vlm_V) (h : vlm_read st = some (u, v)) : vlm_cok st = true ∧ staysA [] [0] st.own = true ∧ vlm_can st = vlm_St u v := by
  obtain ⟨h1, h2, h3⟩ := vlm_rd_ok (fun hb => by rw [Bool.and_eq_true, Bool.and_eq_true] at hb; exact hb.2.2) h
  rw [Bool.and_eq_true, Bool.and_eq_true] at h1
  refine ⟨h1.1, h1.2.1, ?_⟩
  have e : vlm_can st = ⟨(vlm_can st).tm, (vlm_can st).own, 1010⟩ := by kernel_rfl
  rw [e, h2, h3]
  rfl
noncomputable def vlm_cond (u : vlm_U) (v : vlm_V) : Bool := runC (vlm_step u) v
noncomputable def vlm_g (u : vlm_U) (v : vlm_V) : Nat × vlm_V := runG (vlm_step u) v
theorem vlm_hg : ∀ (u : vlm_U) (v : vlm_V), vlm_cond u v = true → loopN (vlm_step u) ((fun u v => runF (vlm_step u) v) u v) v = some (vlm_g u v) := by
  exact fun u v h => run_hg h
noncomputable def vlm_m (st : Stt) : Option (Tr (Ex × Stt)) := sumM vlm_read vlm_cond vlm_St vlm_g [(0, .exit 0)] st
noncomputable def mbA_L57 : FuncId → Loops := addL 11 [0, 1, 0, 1, 1, 1] vlm_m seD_L51
set_option maxRecDepth 100000 in
set_option maxHeartbeats 4000000 in
theorem mbA_L57_ok : LoopsOK Try.prog mbA_L57 :=
  loop_sumF (body := (bodyOf Try.prog 11)) (c := (loopOf (bodyOf Try.prog 11) [1, 1, 1, 0, 1, 0])) (kinds := [.exit 0]) (allow := [(0, .exit 0)]) (St := vlm_St) (step := vlm_step) (W := [0, 4, 5, 6, 7, 8, 9, 13, 14, 15, 16, 17, 18, 19, 20, 21, 22, 23, 24, 25, 26, 27, 28, 29, 30, 31, 32, 33, 34, 35, 36, 37, 38]) (As := []) (ks := [0]) (dd := []) (nx := 1010) (n := 100000) (g := vlm_g) (cond := vlm_cond) (fuel := (fun u v => runF (vlm_step u) v)) (read := vlm_read) (by kernel_rfl) (mbA_S56_ok) (seD_L51_ok) 7 ⟨Try.f11, by kernel_rfl, by kernel_rfl⟩ (by kernel_rfl) (by kernel_rfl) (by kernel_rfl) vlm_step_eq vlm_hg vlm_read_ok
theorem vOk_at {V : List (Int × (Int × Int))} (h : vGood V = true) {i : Int} (h0 : 0 ≤ i) (h1 : i < V.length) : vOk (el_iii V i).1 (el_iii V i).2.1 (el_iii V i).2.2 = true := by
  obtain ⟨k, rfl⟩ : ∃ k : Nat, i = k := ⟨i.toNat, by omega⟩
  have hk : k < V.length := by omega
  rw [el_get hk]
  exact List.all_eq_true.1 h _ (List.getElem_mem hk)
theorem mulB {x y A B : Int} (hA : 0 ≤ A) (hB : 0 ≤ B) (hx : -A ≤ x ∧ x ≤ A) (hy : -B ≤ y ∧ y ≤ B) : -(A * B) ≤ x * y ∧ x * y ≤ A * B := by
  have h1 : 0 ≤ (A - x) * (B + y) := Int.mul_nonneg (by omega) (by omega)
  have h2 : 0 ≤ (A + x) * (B - y) := Int.mul_nonneg (by omega) (by omega)
  have h3 : 0 ≤ (A - x) * (B - y) := Int.mul_nonneg (by omega) (by omega)
  have h4 : 0 ≤ (A + x) * (B + y) := Int.mul_nonneg (by omega) (by omega)
  have e1 : (A - x) * (B + y) + (A + x) * (B - y) = 2 * (A * B) - 2 * (x * y) := by grind
  have e2 : (A - x) * (B - y) + (A + x) * (B + y) = 2 * (A * B) + 2 * (x * y) := by grind
  omega
theorem wit_of {a b c k : Int} (hk : 0 ≤ k ∧ k ≤ 9223372036854775807) (ha : -k ≤ a ∧ a ≤ k) (hb : -k ≤ b ∧ b ≤ k) (hc : -k ≤ c ∧ c ≤ k) : wit a b c k = true := by
  unfold wit
  rw [wid (by omega) (by omega), decide_eq_true (show 0 - k ≤ a by omega), decide_eq_true ha.2, decide_eq_true (show 0 - k ≤ b by omega), decide_eq_true hb.2, decide_eq_true (show 0 - k ≤ c by omega), decide_eq_true hc.2]; rfl
theorem vOk_bd {p : Int × (Int × Int)} (h : vOk p.1 p.2.1 p.2.2 = true) : (-65536 ≤ p.1 ∧ p.1 ≤ 65536) ∧ (-65536 ≤ p.2.1 ∧ p.2.1 ≤ 65536) ∧ (-65536 ≤ p.2.2 ∧ p.2.2 ≤ 65536) := by
  have := of_decide_eq_true h
  omega
theorem prd_eq {a b c d : Int} (ha : -65536 ≤ a ∧ a ≤ 65536) (hb : -65536 ≤ b ∧ b ≤ 65536) (hc : -65536 ≤ c ∧ c ≤ 65536) (hd : -65536 ≤ d ∧ d ≤ 65536) : prd a b c d = a * b - c * d ∧ -8589934592 ≤ a * b - c * d ∧ a * b - c * d ≤ 8589934592 := by
  have h1 := mulB (by omega) (by omega) ha hb
  have h2 := mulB (by omega) (by omega) hc hd
  unfold prd
  rw [wid (x := a * b) (by omega) (by omega), wid (x := c * d) (by omega) (by omega), wid (x := a * b - c * d) (by omega) (by omega)]
  exact ⟨rfl, by omega, by omega⟩
theorem det_dot {p q r : Int × (Int × Int)} (hp : vOk p.1 p.2.1 p.2.2 = true) (hq : vOk q.1 q.2.1 q.2.2 = true) (hr : vOk r.1 r.2.1 r.2.2 = true) : dot3 p (crs3 q r) = det p q r ∧ -1688849860263936 ≤ det p q r ∧ det p q r ≤ 1688849860263936 := by
  obtain ⟨p1, p2, p3⟩ := vOk_bd hp
  obtain ⟨q1, q2, q3⟩ := vOk_bd hq
  obtain ⟨r1, r2, r3⟩ := vOk_bd hr
  obtain ⟨x1, x2, x3⟩ := prd_eq q2 r3 q3 r2
  obtain ⟨y1, y2, y3⟩ := prd_eq q3 r1 q1 r3
  obtain ⟨z1, z2, z3⟩ := prd_eq q1 r2 q2 r1
  have e : crs3 q r = (q.2.1 * r.2.2 - q.2.2 * r.2.1, (q.2.2 * r.1 - q.1 * r.2.2, q.1 * r.2.1 - q.2.1 * r.1)) := by
    unfold crs3
    rw [wit_of (by omega) (by omega) (by omega) (by omega), wit_of (by omega) (by omega) (by omega) (by omega), x1, y1, z1]; rfl
  rw [e]
  unfold det dot3
  dsimp only
  generalize q.2.1 * r.2.2 - q.2.2 * r.2.1 = x at *
  generalize q.2.2 * r.1 - q.1 * r.2.2 = y at *
  generalize q.1 * r.2.1 - q.2.1 * r.1 = z at *
  have m1 := mulB (by omega) (by omega) p1 ⟨x2, x3⟩
  have m2 := mulB (by omega) (by omega) p2 ⟨y2, y3⟩
  have m3 := mulB (by omega) (by omega) p3 ⟨z2, z3⟩
  rw [wit_of (by omega) (by omega) (by omega) (by omega), wit_of (by omega) (by omega) (by omega) (by omega)]
  rw [wid (x := p.1 * x) (by omega) (by omega), wid (x := p.2.1 * y) (by omega) (by omega), wid (x := p.2.2 * z) (by omega) (by omega), wid (x := p.1 * x + p.2.1 * y) (by omega) (by omega), wid (x := p.1 * x + p.2.1 * y + p.2.2 * z) (by omega) (by omega)]
  exact ⟨rfl, by omega, by omega⟩
theorem det_rev (p q r : Int × (Int × Int)) : det p r q = 0 - det p q r := by unfold det; grind
theorem vsum_app (V : List (Int × (Int × Int))) (A B : List (Int × (Int × Int))) : vsum V (A ++ B) = vsum V A + vsum V B := by
  induction A with
  | nil => simp [vsum]
  | cons t A ih => simp only [List.cons_append, vsum, ih]; omega
theorem vsum_rev (V : List (Int × (Int × Int))) (T : List (Int × (Int × Int))) : vsum V (T.map rvT) = 0 - vsum V T := by
  induction T with
  | nil => rfl
  | cons t T ih =>
    simp only [List.map_cons, vsum, ih]
    have : vt V (rvT t) = 0 - vt V t := det_rev _ _ _
    omega
theorem vt_bd {V : List (Int × (Int × Int))} (hv : vGood V = true) {t : Int × (Int × Int)} (ht : tOk V.length t = true) : dot3 (el_iii V t.1) (crs3 (el_iii V t.2.1) (el_iii V t.2.2)) = vt V t ∧ -1688849860263936 ≤ vt V t ∧ vt V t ≤ 1688849860263936 := by
  obtain ⟨i1, i2, i3, i4, i5, i6⟩ := of_decide_eq_true ht
  exact det_dot (vOk_at hv i1 i2) (vOk_at hv i3 i4) (vOk_at hv i5 i6)
theorem vsum_bd {V : List (Int × (Int × Int))} (hv : vGood V = true) : ∀ {T : List (Int × (Int × Int))}, tGood V.length T = true → -(1688849860263936 * (T.length : Int)) ≤ vsum V T ∧ vsum V T ≤ 1688849860263936 * (T.length : Int)
  | [], _ => by simp [vsum]
  | t :: T, h => by
    unfold tGood at h
    rw [List.all_cons, Bool.and_eq_true] at h
    have ih := vsum_bd hv (T := T) h.2
    have := vt_bd hv h.1
    simp only [vsum, List.length_cons]
    push_cast
    omega
theorem tGood_take {n : Int} {T : List (Int × (Int × Int))} (h : tGood n T = true) (j : Nat) : tGood n (T.take j) = true := by
  unfold tGood at h ⊢
  rw [List.all_eq_true] at h ⊢
  exact fun t ht => h t (List.mem_of_mem_take ht)
theorem vlm_run {V T : List (Int × (Int × Int))} (h : chk V T = 0) : vlm_cond ((0 : Int), T, (T.length : Int), V, T) (0, 0) = true ∧ vlm_g ((0 : Int), T, (T.length : Int), V, T) (0, 0) = (0, (vsum V T, (T.length : Int))) := by
  obtain ⟨hV, hT, hv, ht⟩ := chk0 h
  have R := run_steps (step := vlm_step ((0 : Int), T, (T.length : Int), V, T)) (St := fun j => (vsum V (T.take j), (j : Int))) (n := T.length) (t := (0, (vsum V T, (T.length : Int)))) (by
    simp only [vlm_step, Tr.val, Int.lt_irrefl, decide_false, cond_false, List.take_length]) T.length 0 (Nat.zero_add _) (fun j _ hj => by
    have c1 : decide ((j : Int) < (T.length : Int)) = true := decide_eq_true (by omega)
    have c2 : decide ((0 : Int) ≤ (j : Int)) = true := decide_eq_true (by omega)
    obtain ⟨i1, i2, i3, i4, i5, i6⟩ := tOk_at ht hj
    have hb := vt_bd hv (decide_eq_true ⟨i1, i2, i3, i4, i5, i6⟩ : tOk V.length T[j] = true)
    have hd : dot3 ((el_iii V T[j].1).1, (el_iii V T[j].1).2.1, (el_iii V T[j].1).2.2) (crs3 ((el_iii V T[j].2.1).1, (el_iii V T[j].2.1).2.1, (el_iii V T[j].2.1).2.2) ((el_iii V T[j].2.2).1, (el_iii V T[j].2.2).2.1, (el_iii V T[j].2.2).2.2)) = vt V T[j] := hb.1
    have B := vsum_bd hv (tGood_take ht j)
    have hl : (T.take j).length = j := by rw [List.length_take]; omega
    rw [hl] at B
    have e : vsum V (T.take (j + 1)) = vsum V (T.take j) + vt V T[j] := by
      rw [take_s hj, vsum_app]; simp [vsum]
    have w : IntKind.wrap IntKind.i64 (vsum V (T.take j) + vt V T[j]) = vsum V (T.take j) + vt V T[j] := wid (by omega) (by omega)
    rw [e]
    simp only [vlm_step, Tr.val, c1, c2, el_get hj, decide_eq_true i1, decide_eq_true i2, decide_eq_true i3, decide_eq_true i4, decide_eq_true i5, decide_eq_true i6, hd, w, wi1 hj hT, Bool.and_self, cond_true])
  exact R
set_option maxRecDepth 100000 in
theorem vlc_tree (V : (Ty.list (.prod (.int .i64) (.prod (.int .i64) (.int .i64)))).den) (T : (Ty.list (.prod (.int .i64) (.prod (.int .i64) (.int .i64)))).den) : evalF Try.prog mbA_S56 (opens []) mbA_L57 9 11 [.ag [.d false false (.prod (.int .i64) (.prod (.int .i64) (.int .i64))) V, .d false false (.prod (.int .i64) (.prod (.int .i64) (.int .i64))) T]] = .br ((bif chk V T != (0 : Int) then true else ((vlm_cond ((0 : Int), T, (↑(List.length T) : Int), V, T) ((0 : Int), (0 : Int))) && (Nat.beq (Prod.fst (vlm_g ((0 : Int), T, (↑(List.length T) : Int), V, T) ((0 : Int), (0 : Int)))) (0 : Nat))))) (.ret (.one (.v false (.int .i64 (bif chk V T != (0 : Int) then (0 : Int) else Prod.fst (Prod.snd (vlm_g ((0 : Int), T, (↑(List.length T) : Int), V, T) ((0 : Int), (0 : Int))))))))) (.bad 116) := by kernel_rfl
set_option maxHeartbeats 4000000 in
theorem vlc_val (V : (Ty.list (.prod (.int .i64) (.prod (.int .i64) (.int .i64)))).den) (T : (Ty.list (.prod (.int .i64) (.prod (.int .i64) (.int .i64)))).den) : (.br ((bif chk V T != (0 : Int) then true else ((vlm_cond ((0 : Int), T, (↑(List.length T) : Int), V, T) ((0 : Int), (0 : Int))) && (Nat.beq (Prod.fst (vlm_g ((0 : Int), T, (↑(List.length T) : Int), V, T) ((0 : Int), (0 : Int)))) (0 : Nat))))) (.ret (.one (.v false (.int .i64 (bif chk V T != (0 : Int) then (0 : Int) else Prod.fst (Prod.snd (vlm_g ((0 : Int), T, (↑(List.length T) : Int), V, T) ((0 : Int), (0 : Int))))))))) (.bad 116) : Tr AV).val = some (.one (.v false (.int .i64 (vol V T)))) := by
  show cond _ _ _ = _
  unfold vol
  by_cases h : chk V T = 0
  · obtain ⟨r1, r2⟩ := vlm_run (V := V) (T := T) h
    simp only [h, r1, r2, bne_self_eq_false, cond_false, cond_true, Nat.beq, Bool.and_self, Tr.val]
  · simp only [bne0 h, cond_true, Tr.val]
noncomputable def vlc_g : List AV → Option (Tr AV)
  | [.ag [.d _ _ (.prod (.int .i64) (.prod (.int .i64) (.int .i64))) V, .d _ _ (.prod (.int .i64) (.prod (.int .i64) (.int .i64))) T]] => some (.ret (.one (.v false (.int .i64 (vol V T)))))
  | _ => none
set_option maxHeartbeats 4000000 in
theorem vlc_ok : FunOK Try.prog 11 vlc_g := by
  refine fun_ok (by kernel_rfl) (mbA_S56_ok) (mbA_L57_ok) 9 (On := (opens [])) (fun args t h => ?_)
  unfold vlc_g at h
  split at h
  · rename_i _ _ V _ _ T
    simp only [Option.some.injEq] at h
    subst h
    refine ⟨[.ag [.d false false (.prod (.int .i64) (.prod (.int .i64) (.int .i64))) V, .d false false (.prod (.int .i64) (.prod (.int .i64) (.int .i64))) T]], rfl, fun fr w us h => h, fun r hr => ?_⟩
    simp only [Tr.val, Option.some.injEq] at hr
    subst hr
    rw [vlc_tree]
    exact vlc_val V T
  · cases h
noncomputable def mbA_S58 : Sums := addS 11 vlc_g mbA_S56
theorem mbA_S58_ok : SumOK Try.prog mbA_S58 := addS_ok (vlc_ok) (mbA_S56_ok)
def rdet (p q r : Int × (Int × Int)) : Int := bif bif bif !wit p.1 p.2.1 p.2.2 (131072 : Int) then true else !wit q.1 q.2.1 q.2.2 (131072 : Int) then true else !wit r.1 r.2.1 r.2.2 (131072 : Int) then (0 : Int) else dot3 p (crs3 q r)
set_option maxRecDepth 100000 in
theorem dotb_tree (a : Int) (b : Int) (c : Int) (d : Int) (e : Int) (f : Int) : evalF Try.prog mbA_S58 (opens []) mbA_L57 9 49 [.ag [.v false (.int .i64 a), .v false (.int .i64 b), .v false (.int .i64 c)], .ag [.v false (.int .i64 d), .v false (.int .i64 e), .v false (.int .i64 f)]] = .ret (.one (.v false (.int .i64 (bif bif !wit a b c (131072 : Int) then true else !wit d e f (1099511627776 : Int) then (0 : Int) else IntKind.wrap IntKind.i64 (IntKind.wrap IntKind.i64 (IntKind.wrap IntKind.i64 (a * d) + IntKind.wrap IntKind.i64 (b * e)) + IntKind.wrap IntKind.i64 (c * f)))))) := by kernel_rfl
set_option maxHeartbeats 4000000 in
theorem dotb_val (a : Int) (b : Int) (c : Int) (d : Int) (e : Int) (f : Int) : (.ret (.one (.v false (.int .i64 (bif bif !wit a b c (131072 : Int) then true else !wit d e f (1099511627776 : Int) then (0 : Int) else IntKind.wrap IntKind.i64 (IntKind.wrap IntKind.i64 (IntKind.wrap IntKind.i64 (a * d) + IntKind.wrap IntKind.i64 (b * e)) + IntKind.wrap IntKind.i64 (c * f)))))) : Tr AV).val = some (.one (.v false (.int .i64 (dot3 (a, (b, c)) (d, (e, f)))))) := by
  rfl
noncomputable def dotb_g : List AV → Option (Tr AV)
  | [.ag [.v _ (.int .i64 a), .v _ (.int .i64 b), .v _ (.int .i64 c)], .ag [.v _ (.int .i64 d), .v _ (.int .i64 e), .v _ (.int .i64 f)]] => some (.ret (.one (.v false (.int .i64 (dot3 (a, (b, c)) (d, (e, f)))))))
  | _ => none
set_option maxHeartbeats 4000000 in
theorem dotb_ok : FunOK Try.prog 49 dotb_g := by
  refine fun_ok (by kernel_rfl) (mbA_S58_ok) (mbA_L57_ok) 9 (On := (opens [])) (fun args t h => ?_)
  unfold dotb_g at h
  split at h
  · rename_i _ a _ b _ c _ d _ e _ f
    simp only [Option.some.injEq] at h
    subst h
    refine ⟨[.ag [.v false (.int .i64 a), .v false (.int .i64 b), .v false (.int .i64 c)], .ag [.v false (.int .i64 d), .v false (.int .i64 e), .v false (.int .i64 f)]], rfl, fun fr w us h => h, fun r hr => ?_⟩
    simp only [Tr.val, Option.some.injEq] at hr
    subst hr
    rw [dotb_tree]
    exact dotb_val a b c d e f
  · cases h
noncomputable def mbA_S59 : Sums := addS 49 dotb_g mbA_S58
theorem mbA_S59_ok : SumOK Try.prog mbA_S59 := addS_ok (dotb_ok) (mbA_S58_ok)
set_option maxRecDepth 100000 in
theorem detb_tree (a : Int) (b : Int) (c : Int) (d : Int) (e : Int) (f : Int) (g : Int) (h : Int) (i : Int) : evalF Try.prog mbA_S59 (opens []) mbA_L57 9 31 [.ag [.v false (.int .i64 a), .v false (.int .i64 b), .v false (.int .i64 c)], .ag [.v false (.int .i64 d), .v false (.int .i64 e), .v false (.int .i64 f)], .ag [.v false (.int .i64 g), .v false (.int .i64 h), .v false (.int .i64 i)]] = .ret (.one (.v false (.int .i64 (bif bif bif !wit a b c (131072 : Int) then true else !wit d e f (131072 : Int) then true else !wit g h i (131072 : Int) then (0 : Int) else dot3 (a, b, c) (Prod.fst (crs3 (d, e, f) (g, h, i)), Prod.fst (Prod.snd (crs3 (d, e, f) (g, h, i))), Prod.snd (Prod.snd (crs3 (d, e, f) (g, h, i)))))))) := by kernel_rfl
set_option maxHeartbeats 4000000 in
theorem detb_val (a : Int) (b : Int) (c : Int) (d : Int) (e : Int) (f : Int) (g : Int) (h : Int) (i : Int) : (.ret (.one (.v false (.int .i64 (bif bif bif !wit a b c (131072 : Int) then true else !wit d e f (131072 : Int) then true else !wit g h i (131072 : Int) then (0 : Int) else dot3 (a, b, c) (Prod.fst (crs3 (d, e, f) (g, h, i)), Prod.fst (Prod.snd (crs3 (d, e, f) (g, h, i))), Prod.snd (Prod.snd (crs3 (d, e, f) (g, h, i)))))))) : Tr AV).val = some (.one (.v false (.int .i64 (rdet (a, (b, c)) (d, (e, f)) (g, (h, i)))))) := by
  rfl
noncomputable def detb_g : List AV → Option (Tr AV)
  | [.ag [.v _ (.int .i64 a), .v _ (.int .i64 b), .v _ (.int .i64 c)], .ag [.v _ (.int .i64 d), .v _ (.int .i64 e), .v _ (.int .i64 f)], .ag [.v _ (.int .i64 g), .v _ (.int .i64 h), .v _ (.int .i64 i)]] => some (.ret (.one (.v false (.int .i64 (rdet (a, (b, c)) (d, (e, f)) (g, (h, i)))))))
  | _ => none
set_option maxHeartbeats 4000000 in
theorem detb_ok : FunOK Try.prog 31 detb_g := by
  refine fun_ok (by kernel_rfl) (mbA_S59_ok) (mbA_L57_ok) 9 (On := (opens [])) (fun args t h => ?_)
  unfold detb_g at h
  split at h
  · rename_i _ a _ b _ c _ d _ e _ f _ g _ h _ i
    simp only [Option.some.injEq] at h
    subst h
    refine ⟨[.ag [.v false (.int .i64 a), .v false (.int .i64 b), .v false (.int .i64 c)], .ag [.v false (.int .i64 d), .v false (.int .i64 e), .v false (.int .i64 f)], .ag [.v false (.int .i64 g), .v false (.int .i64 h), .v false (.int .i64 i)]], rfl, fun fr w us h => h, fun r hr => ?_⟩
    simp only [Tr.val, Option.some.injEq] at hr
    subst hr
    rw [detb_tree]
    exact detb_val a b c d e f g h i
  · cases h
noncomputable def mbA_S60 : Sums := addS 31 detb_g mbA_S59
theorem mbA_S60_ok : SumOK Try.prog mbA_S60 := addS_ok (detb_ok) (mbA_S59_ok)
abbrev rvl_U : Type := Int × (Ty.list (.prod (.int .i64) (.prod (.int .i64) (.int .i64)))).den × Int × (Ty.list (.prod (.int .i64) (.prod (.int .i64) (.int .i64)))).den × (Ty.list (.prod (.int .i64) (.prod (.int .i64) (.int .i64)))).den
abbrev rvl_V : Type := Int × Int
noncomputable def rvl_St (u : rvl_U) (v : rvl_V) : Stt := ⟨[.one .junk, .one (.p 0 0), .one (.v false (.int .i64 u.1)), .one (.v false (.int .i64 v.1)), .one .junk, .one .junk, .one .junk, .one .junk, .one .junk, .one .junk, .one (.d false false (.prod (.int .i64) (.prod (.int .i64) (.int .i64))) u.2.1), .one (.v false (.int .i64 u.2.2.1)), .one (.v false (.int .i64 v.2)), .one .junk, .one .junk, .one .junk, .one .junk, .one .junk, .one .junk, .one .junk, .one .junk, .one .junk, .one .junk, .one .junk, .one .junk, .one .junk, .one .junk, .one .junk, .one .junk, .one .junk, .one .junk, .one .junk, .one .junk, .one .junk, .one .junk, .one .junk, .one .junk, .one .junk, .one .junk], [(0, .cells [.d false false (.prod (.int .i64) (.prod (.int .i64) (.int .i64))) u.2.2.2.1, .d false false (.prod (.int .i64) (.prod (.int .i64) (.int .i64))) u.2.2.2.2])], 1010⟩
noncomputable def rvl_step (u : rvl_U) (v : rvl_V) : Tr (rvl_V ⊕ (Nat × rvl_V)) :=
  match u, v with
  | (_, q2, q3, q5, _), (q1, q4) => .br (decide (q4 < q3)) (.br (decide ((0 : Int) ≤ q4) && decide (q4 < (↑(List.length q2) : Int))) (.br (decide ((0 : Int) ≤ Prod.fst (el_iii q2 q4)) && decide (Prod.fst (el_iii q2 q4) < (↑(List.length q5) : Int))) (.br (decide ((0 : Int) ≤ Prod.fst (Prod.snd (el_iii q2 q4))) && decide (Prod.fst (Prod.snd (el_iii q2 q4)) < (↑(List.length q5) : Int))) (.br (decide ((0 : Int) ≤ Prod.snd (Prod.snd (el_iii q2 q4))) && decide (Prod.snd (Prod.snd (el_iii q2 q4)) < (↑(List.length q5) : Int))) (.ret (.inl (IntKind.wrap IntKind.i64 (q1 + rdet (Prod.fst (el_iii q5 (Prod.fst (el_iii q2 q4))), Prod.fst (Prod.snd (el_iii q5 (Prod.fst (el_iii q2 q4)))), Prod.snd (Prod.snd (el_iii q5 (Prod.fst (el_iii q2 q4))))) (Prod.fst (el_iii q5 (Prod.fst (Prod.snd (el_iii q2 q4)))), Prod.fst (Prod.snd (el_iii q5 (Prod.fst (Prod.snd (el_iii q2 q4))))), Prod.snd (Prod.snd (el_iii q5 (Prod.fst (Prod.snd (el_iii q2 q4)))))) (Prod.fst (el_iii q5 (Prod.snd (Prod.snd (el_iii q2 q4)))), Prod.fst (Prod.snd (el_iii q5 (Prod.snd (Prod.snd (el_iii q2 q4))))), Prod.snd (Prod.snd (el_iii q5 (Prod.snd (Prod.snd (el_iii q2 q4))))))), IntKind.wrap IntKind.i64 (q4 + (1 : Int))))) (.bad 29)) (.bad 29)) (.bad 29)) (.bad 29)) (.ret (.inr (0, (q1, q4))))
set_option maxRecDepth 100000 in
set_option maxHeartbeats 4000000 in
theorem rvl_step_eq : ∀ (u : rvl_U) (v : rvl_V), (evalC Try.prog (evalB Try.prog mbA_S60 (opens []) mbA_L57 7).1 (evalB Try.prog mbA_S60 (opens []) mbA_L57 7).2 (opens []) (mbA_L57 12) 100000 (0 :: [0, 1, 0, 1, 1, 1]) (loopOf (bodyOf Try.prog 12) [1, 1, 1, 0, 1, 0]) (rvl_St u v) []).bind (finF [0, 4, 5, 6, 7, 8, 9, 13, 14, 15, 16, 17, 18, 19, 20, 21, 22, 23, 24, 25, 26, 27, 28, 29, 30, 31, 32, 33, 34, 35, 36, 37, 38] [] [0] [] 1010) = (rvl_step u v).bind (outA (rvl_St u) [.exit 0]) := by
  rintro ⟨q0, q2, q3, q5, q6⟩ ⟨q1, q4⟩
  kernel_rfl
noncomputable def rvl_rd (b : Bool) (o1 : Option AV) (o2 : Option AV) (o3 : Option AV) (o10 : Option AV) (o11 : Option AV) (o12 : Option AV) (own : Own) : Option (rvl_U × rvl_V) := zrT b <| zrO o1 fun za1 => zrA1 za1 fun zc2 => zrP 0 0 zc2 <| zrO o2 fun za3 => zrA1 za3 fun zc4 => zrI .i64 zc4 fun q0 => zrO o3 fun za5 => zrA1 za5 fun zc6 => zrI .i64 zc6 fun q1 => zrO o10 fun za7 => zrA1 za7 fun zc8 => zrD (.prod (.int .i64) (.prod (.int .i64) (.int .i64))) zc8 fun q2 => zrO o11 fun za9 => zrA1 za9 fun zc10 => zrI .i64 zc10 fun q3 => zrO o12 fun za11 => zrA1 za11 fun zc12 => zrI .i64 zc12 fun q4 => zrL own fun zq13 zw14 => zrKey 0 zq13 fun zk15 => zrC zk15 fun zl16 => zrL zl16 fun zc17 zr18 => zrD (.prod (.int .i64) (.prod (.int .i64) (.int .i64))) zc17 fun q5 => zrL zr18 fun zc19 zr20 => zrD (.prod (.int .i64) (.prod (.int .i64) (.int .i64))) zc19 fun q6 => zrN zr20 <| zrN zw14 <| some ((q0, q2, q3, q5, q6), (q1, q4))
noncomputable def rvl_can (st : Stt) : Stt := canA [0, 4, 5, 6, 7, 8, 9, 13, 14, 15, 16, 17, 18, 19, 20, 21, 22, 23, 24, 25, 26, 27, 28, 29, 30, 31, 32, 33, 34, 35, 36, 37, 38] [] [0] [] 1010 st
noncomputable def rvl_cok (st : Stt) : Bool := canAok [0, 4, 5, 6, 7, 8, 9, 13, 14, 15, 16, 17, 18, 19, 20, 21, 22, 23, 24, 25, 26, 27, 28, 29, 30, 31, 32, 33, 34, 35, 36, 37, 38] [] [0] [] 1010 st
noncomputable def rvl_read (st : Stt) : Option (rvl_U × rvl_V) := rvl_rd (rvl_cok st && (staysA [] [0] st.own && juAll [0, 4, 5, 6, 7, 8, 9, 13, 14, 15, 16, 17, 18, 19, 20, 21, 22, 23, 24, 25, 26, 27, 28, 29, 30, 31, 32, 33, 34, 35, 36, 37, 38] (rvl_can st).tm 39)) (rvl_can st).tm[1]? (rvl_can st).tm[2]? (rvl_can st).tm[3]? (rvl_can st).tm[10]? (rvl_can st).tm[11]? (rvl_can st).tm[12]? (rvl_can st).own
set_option maxRecDepth 100000 in
set_option maxHeartbeats 4000000 in
theorem rvl_rd_ok {b : Bool} {tm : List AV} {own : Own} {u : rvl_U} {v : rvl_V} (hj : b = true → juAll [0, 4, 5, 6, 7, 8, 9, 13, 14, 15, 16, 17, 18, 19, 20, 21, 22, 23, 24, 25, 26, 27, 28, 29, 30, 31, 32, 33, 34, 35, 36, 37, 38] tm 39 = true) (h : rvl_rd b tm[1]? tm[2]? tm[3]? tm[10]? tm[11]? tm[12]? own = some (u, v)) : b = true ∧ tm = (rvl_St u v).tm ∧ own = (rvl_St u v).own := by
  unfold rvl_rd at h
  obtain ⟨rfl, h0⟩ := zrT_some h
  obtain ⟨za1, e1, h1⟩ := zrO_some h0
  obtain ⟨zc2, rfl, h2⟩ := zrA1_some h1
  obtain ⟨rfl, h3⟩ := zrP_some h2
  obtain ⟨za3, e2, h4⟩ := zrO_some h3
  obtain ⟨zc4, rfl, h5⟩ := zrA1_some h4
  obtain ⟨q0, rfl, h6⟩ := zrI_some h5
  obtain ⟨za5, e3, h7⟩ := zrO_some h6
  obtain ⟨zc6, rfl, h8⟩ := zrA1_some h7
  obtain ⟨q1, rfl, h9⟩ := zrI_some h8
  obtain ⟨za7, e10, h10⟩ := zrO_some h9
  obtain ⟨zc8, rfl, h11⟩ := zrA1_some h10
  obtain ⟨q2, rfl, h12⟩ := zrD_some h11
  obtain ⟨za9, e11, h13⟩ := zrO_some h12
  obtain ⟨zc10, rfl, h14⟩ := zrA1_some h13
  obtain ⟨q3, rfl, h15⟩ := zrI_some h14
  obtain ⟨za11, e12, h16⟩ := zrO_some h15
  obtain ⟨zc12, rfl, h17⟩ := zrA1_some h16
  obtain ⟨q4, rfl, h18⟩ := zrI_some h17
  obtain ⟨zq13, zw14, rfl, h19⟩ := zrL_some h18
  obtain ⟨zk15, rfl, h20⟩ := zrKey_some h19
  obtain ⟨zl16, rfl, h21⟩ := zrC_some h20
  obtain ⟨zc17, zr18, rfl, h22⟩ := zrL_some h21
  obtain ⟨q5, rfl, h23⟩ := zrD_some h22
  obtain ⟨zc19, zr20, rfl, h24⟩ := zrL_some h23
  obtain ⟨q6, rfl, h25⟩ := zrD_some h24
  obtain ⟨rfl, h26⟩ := zrN_some h25
  obtain ⟨rfl, h27⟩ := zrN_some h26
  have h := Option.some.inj h27
  have hu := congrArg Prod.fst h
  have hv := congrArg Prod.snd h
  dsimp only at hu hv
  subst hu
  subst hv
  exact ⟨rfl, (tm_fill (hj rfl) (Lv := [(1, .one (.p 0 0)), (2, .one (.v false (.int .i64 q0))), (3, .one (.v false (.int .i64 q1))), (10, .one (.d false false (.prod (.int .i64) (.prod (.int .i64) (.int .i64))) q2)), (11, .one (.v false (.int .i64 q3))), (12, .one (.v false (.int .i64 q4)))]) (by kernel_rfl) ⟨e1, e2, e3, e10, e11, e12, trivial⟩).trans (by kernel_rfl), rfl⟩
theorem rvl_read_ok (st : Stt) (u : rvl_U) (v : rvl_V) (h : rvl_read st = some (u, v)) : rvl_cok st = true ∧ staysA [] [0] st.own = true ∧ rvl_can st = rvl_St u v := by
  obtain ⟨h1, h2, h3⟩ := rvl_rd_ok (fun hb => by rw [Bool.and_eq_true, Bool.and_eq_true] at hb; exact hb.2.2) h
  rw [Bool.and_eq_true, Bool.and_eq_true] at h1
  refine ⟨h1.1, h1.2.1, ?_⟩
  have e : rvl_can st = ⟨(rvl_can st).tm, (rvl_can st).own, 1010⟩ := by kernel_rfl
  rw [e, h2, h3]
  rfl
noncomputable def rvl_cond (u : rvl_U) (v : rvl_V) : Bool := runC (rvl_step u) v
noncomputable def rvl_g (u : rvl_U) (v : rvl_V) : Nat × rvl_V := runG (rvl_step u) v
theorem rvl_hg : ∀ (u : rvl_U) (v : rvl_V), rvl_cond u v = true → loopN (rvl_step u) ((fun u v => runF (rvl_step u) v) u v) v = some (rvl_g u v) := by
  exact fun u v h => run_hg h
noncomputable def rvl_m (st : Stt) : Option (Tr (Ex × Stt)) := sumM rvl_read rvl_cond rvl_St rvl_g [(0, .exit 0)] st
noncomputable def mbA_L61 : FuncId → Loops := addL 12 [0, 1, 0, 1, 1, 1] rvl_m mbA_L57
set_option maxRecDepth 100000 in
set_option maxHeartbeats 4000000 in
theorem mbA_L61_ok : LoopsOK Try.prog mbA_L61 :=
  loop_sumF (body := (bodyOf Try.prog 12)) (c := (loopOf (bodyOf Try.prog 12) [1, 1, 1, 0, 1, 0])) (kinds := [.exit 0]) (allow := [(0, .exit 0)]) (St := rvl_St) (step := rvl_step) (W := [0, 4, 5, 6, 7, 8, 9, 13, 14, 15, 16, 17, 18, 19, 20, 21, 22, 23, 24, 25, 26, 27, 28, 29, 30, 31, 32, 33, 34, 35, 36, 37, 38]) (As := []) (ks := [0]) (dd := []) (nx := 1010) (n := 100000) (g := rvl_g) (cond := rvl_cond) (fuel := (fun u v => runF (rvl_step u) v)) (read := rvl_read) (by kernel_rfl) (mbA_S60_ok) (mbA_L57_ok) 7 ⟨Try.f12, by kernel_rfl, by kernel_rfl⟩ (by kernel_rfl) (by kernel_rfl) (by kernel_rfl) rvl_step_eq rvl_hg rvl_read_ok
end Go.Proofs.Ytbagcmeeiiohpaa
