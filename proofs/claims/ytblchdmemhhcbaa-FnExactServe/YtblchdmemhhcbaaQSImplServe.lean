/-
  Contracts over the program: impl.Serve at any arguments.
-/
import Derived.Test.YtblchdmemhhcbaaQSStepLaws
import Derived.Test.YtblchdmemhhcbaaQSPlayW
import Derived.Test.YtblchdmemhhcbaaQSPlayEq
import Derived.Test.YtblchdmemhhcbaaQSStepS
namespace Go.Proofs.Ytblchdmemhhcbaa
set_option linter.unusedVariables false
set_option linter.unusedSimpArgs false
open Go.RowKit

theorem implServe : ImplServe := by
  intro c a cap L nmi w hc _ hcap hr
  cases h : ramN L.length with
  | false =>
    have e : servedN c L nmi = (cpu0, ⟨[], []⟩) := by unfold servedN; rw [h]; rfl
    rw [e]
    cases nmi
    · exact implServe_no_false c hc a cap L h w hr hcap
    · exact implServe_no_true c hc a cap L h w hr hcap
  | true =>
    have e : servedN c L nmi = serveN ⟨L, []⟩ c nmi := by unfold servedN; rw [h]; rfl
    have es := serve_eq c hc ⟨L, []⟩ nmi
    rw [e]
    cases nmi
    · exact implServe_yes_false c hc a cap L h w hr hcap es
    · exact implServe_yes_true c hc a cap L h w hr hcap es

end Go.Proofs.Ytblchdmemhhcbaa
