/-
  The closed facts of the row of FnExactAspRise: by the kernel's own run, in a text of their own (memory).
-/
import Derived.Test.YthdjjgbjemaabaaRows
import Derived.WalkKit
import Derived.ProofKit
import Derived.JoinedOf
namespace Go.Proofs.Ythdjjgbjemaabaa
set_option maxHeartbeats 10000000 in
theorem aspRise_closed : joinedFacts Try.prog 6 Try.f6 Rows.fnExactAspRiseSpec Rows.fnExactAspRiseRow = true := by
  simp only [joinedFacts, Bool.and_eq_true]
  and_intros
  all_goals as_aux_lemma => kernel_rfl
end Go.Proofs.Ythdjjgbjemaabaa
