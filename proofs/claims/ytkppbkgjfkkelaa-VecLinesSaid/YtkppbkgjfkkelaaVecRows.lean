/-
  The walks of layer 4's laws, with the chapter's examples.
-/
import Derived.Test.YtkppbkgjfkkelaaLawDet
import Derived.Test.YtkppbkgjfkkelaaVecAw
namespace Go.Proofs.Ytkppbkgjfkkelaa
open Go.RowKit
theorem row_VecOrders (x y z u v t a b c : Int) (w : World) : Calls Try.prog 6 #[.agg #[.int .i64 x, .int .i64 y, .int .i64 z], .agg #[.int .i64 u, .int .i64 v, .int .i64 t], .agg #[.int .i64 a, .int .i64 b, .int .i64 c]] w fun e w' => e = .returned (.bool true) ∧ Ext w w' := law_VecOrders x y z u v t a b c law_awake4 w
theorem row_VecDet (x y z u v t a b c : Int) (w : World) : Calls Try.prog 4 #[.agg #[.int .i64 x, .int .i64 y, .int .i64 z], .agg #[.int .i64 u, .int .i64 v, .int .i64 t], .agg #[.int .i64 a, .int .i64 b, .int .i64 c]] w fun e w' => e = .returned (.bool true) ∧ Ext w w' := law_VecDet x y z u v t a b c law_awake4 w
theorem row_VecLines (x y z u v t a b c : Int) (w : World) : Calls Try.prog 8 #[.agg #[.int .i64 x, .int .i64 y, .int .i64 z], .agg #[.int .i64 u, .int .i64 v, .int .i64 t], .agg #[.int .i64 a, .int .i64 b, .int .i64 c]] w fun e w' => e = .returned (.bool true) ∧ Ext w w' := law_VecLines x y z u v t a b c law_awake4 w
theorem row_VecProducts (x y z u v t : Int) (w : World) : Calls Try.prog 3 #[.agg #[.int .i64 x, .int .i64 y, .int .i64 z], .agg #[.int .i64 u, .int .i64 v, .int .i64 t]] w fun e w' => e = .returned (.bool true) ∧ Ext w w' := law_VecProducts x y z u v t law_awake4 w
end Go.Proofs.Ytkppbkgjfkkelaa

