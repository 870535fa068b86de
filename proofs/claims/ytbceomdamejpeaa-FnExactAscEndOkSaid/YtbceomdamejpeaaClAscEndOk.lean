/-
  The closed facts of the row of AscEndOk: by the kernel's own run, in a text of their own (memory).
-/
import Derived.Test.YtbceomdamejpeaaRows
import Derived.WalkKit
import Derived.ProofKit
import Derived.JoinedOf
namespace Go.Proofs.Ytbceomdamejpeaa
set_option maxHeartbeats 10000000 in
theorem ascEndOk_closed : joinedFacts Try.prog 7 Try.f7 Rows.fnExactAscEndOkSpec Rows.fnExactAscEndOkRow = true := by
  simp only [joinedFacts, Bool.and_eq_true]
  and_intros
  all_goals as_aux_lemma => kernel_rfl
end Go.Proofs.Ytbceomdamejpeaa
