/- Part 22 of the proof: RefF. -/
import Derived.Test.YtdficjnnlaicpaaT20
import Derived.Test.YtdficjnnlaicpaaT13
import Derived.Test.YtdficjnnlaicpaaT21
/- Contracts of Window, Passes and Hear, of the program and of the reference, on any job. -/
namespace Go.Proofs.Ytdficjnnlaicpaa
set_option linter.all false
open Go.RowKit
end Go.Proofs.Ytdficjnnlaicpaa
