import Derived.Test.YtackfmeepggedaaDoorM21
import Derived.Deep.RegionHeld3
namespace Go.Proofs.YtackfmeepggedaaDoor
open Go.RowKit

theorem Gate.allows_bits {ts : List Tm} {r : Rl} {x : Ac} (hv : Gate.verbsOk r.vs = true) : (Gate.verbOk x.vb && (Gate.meets ts r x.kd x.tm x.nm && Gate.hasVerb r.vs x.vb)) = Gate.allowsOf ts r x := by
  unfold Gate.allowsOf
  cases hh : Gate.hasVerb r.vs x.vb
  · simp
  · have h5 := Gate.hasVerb_given hv _ hh
    have : Gate.verbOk x.vb = true := by simpa [Gate.verbOk] using h5
    rw [this]; simp

theorem Gate.ruleOk_verbs {r : Rl} (h : Gate.ruleOk r = true) : Gate.verbsOk r.vs = true := by
  unfold Gate.ruleOk at h; simp only [Bool.and_eq_true] at h; exact h.2.1

end Go.Proofs.YtackfmeepggedaaDoor
