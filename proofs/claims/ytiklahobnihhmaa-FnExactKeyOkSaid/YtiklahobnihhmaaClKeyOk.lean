/-
  The closed facts of the row of KeyOk: by the kernel's own run, in a text of their own (memory).
-/
import Derived.Test.YtiklahobnihhmaaRows
import Derived.WalkKit
import Derived.ProofKit
import Derived.JoinedOf
namespace Go.Proofs.Ytiklahobnihhmaa
set_option maxHeartbeats 10000000 in
theorem keyOk_closed : joinedFacts Try.prog 5 Try.f5 Rows.fnExactKeyOkSpec Rows.fnExactKeyOkRow = true := by
  simp only [joinedFacts, Bool.and_eq_true]
  and_intros
  all_goals as_aux_lemma => kernel_rfl
end Go.Proofs.Ytiklahobnihhmaa
