/- Part 21 of the proof: HearF. -/
import Derived.Test.YtdficjnnlaicpaaT13
/- The contract of reed.Hear on valid jobs, any reading. -/
namespace Go.Proofs.Ytdficjnnlaicpaa
set_option linter.all false
open Go.RowKit
end Go.Proofs.Ytdficjnnlaicpaa
