/-
  The closed facts of the row of DatOutOk: by the kernel's own run, in a text of their own (memory).
-/
import Derived.Test.YtiklahobnihhmaaRows
import Derived.WalkKit
import Derived.ProofKit
import Derived.JoinedOf
namespace Go.Proofs.Ytiklahobnihhmaa
set_option maxHeartbeats 10000000 in
theorem datOutOk_closed : joinedFacts Try.prog 8 Try.f8 Rows.fnExactDatOutOkSpec Rows.fnExactDatOutOkRow = true := by
  simp only [joinedFacts, Bool.and_eq_true]
  and_intros
  all_goals as_aux_lemma => kernel_rfl
end Go.Proofs.Ytiklahobnihhmaa
