/- ValueKnown (examples): the law holds. No condition.. Part of the proof: texts Jb2. -/
import Derived.Test.YtgokbhikgdhmpaaGreatDoorQk20
namespace Go.Proofs.YtgokbhikgdhmpaaGreatDoor
open Go.RowKit
open Ma Me
def ofL (l : List UInt8) : ByteArray := ⟨l.toArray⟩
theorem str_of {t : ByteArray} {l : List UInt8} (h : t.data.toList = l) : t = ofL l := by
 unfold ofL
 rw [← h]
end Go.Proofs.YtgokbhikgdhmpaaGreatDoor
