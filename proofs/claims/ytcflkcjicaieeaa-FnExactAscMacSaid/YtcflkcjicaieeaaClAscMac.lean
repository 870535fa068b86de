/-
  The closed facts of the row of FnExactAscMac: by the kernel's own run, in a text of their own (memory).
-/
import Derived.Test.YtcflkcjicaieeaaRows
import Derived.WalkKit
import Derived.ProofKit
import Derived.JoinedOf
namespace Go.Proofs.Ytcflkcjicaieeaa
set_option maxHeartbeats 10000000 in
theorem ascMac_closed : joinedFacts Try.prog 12 Try.f12 Rows.fnExactAscMacSpec Rows.fnExactAscMacRow = true := by
  simp only [joinedFacts, Bool.and_eq_true]
  and_intros
  all_goals as_aux_lemma => kernel_rfl
end Go.Proofs.Ytcflkcjicaieeaa
