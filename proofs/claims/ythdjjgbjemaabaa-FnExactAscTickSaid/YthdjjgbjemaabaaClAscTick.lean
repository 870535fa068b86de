/-
  The closed facts of the row of FnExactAscTick: by the kernel's own run, in a text of their own (memory).
-/
import Derived.Test.YthdjjgbjemaabaaRows
import Derived.WalkKit
import Derived.ProofKit
import Derived.JoinedOf
namespace Go.Proofs.Ythdjjgbjemaabaa
set_option maxHeartbeats 10000000 in
theorem ascTick_closed : joinedFacts Try.prog 10 Try.f10 Rows.fnExactAscTickSpec Rows.fnExactAscTickRow = true := by
  simp only [joinedFacts, Bool.and_eq_true]
  and_intros
  all_goals as_aux_lemma => kernel_rfl
end Go.Proofs.Ythdjjgbjemaabaa
