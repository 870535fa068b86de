/-
  The closed facts of the row of FnExactDatInOpen: by the kernel's own run, in a text of their own (memory).
-/
import Derived.Test.YtcflkcjicaieeaaRows
import Derived.WalkKit
import Derived.ProofKit
import Derived.JoinedOf
namespace Go.Proofs.Ytcflkcjicaieeaa
set_option maxHeartbeats 10000000 in
theorem datInOpen_closed : joinedFacts Try.prog 5 Try.f5 Rows.fnExactDatInOpenSpec Rows.fnExactDatInOpenRow = true := by
  simp only [joinedFacts, Bool.and_eq_true]
  and_intros
  all_goals as_aux_lemma => kernel_rfl
end Go.Proofs.Ytcflkcjicaieeaa
