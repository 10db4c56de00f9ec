import Derived.Test.YtfncnhlihmnkiabGreatRsar
namespace Go.Proofs.YtfncnhlihmnkiabGreat
set_option linter.all false
set_option maxHeartbeats 40000000
set_option maxRecDepth 100000
open Go.RowKit

theorem head_few4 {nc:Nat} {m:Me} {most:Int} (h:headB nc m most=true):m.params.length≤4∧m.hands.length≤8∧1≤m.code.length∧(m.code.length:Int)≤most :=
 Decidable.byContradiction fun hc=>by rw [head_few hc] at h;exact absurd h (by decide)
end Go.Proofs.YtfncnhlihmnkiabGreat
