/- ValueKnown (examples): the law holds. No condition.. Part of the proof: texts Jd4. -/
import Derived.Test.YtgokbhikgdhmpaaGreatDoorQk21
namespace Go.Proofs.YtgokbhikgdhmpaaGreatDoor
open Go.RowKit
open Ma Me
theorem boxS2r (w : World) (s1 : Bool) (t1 b1 : Value) (s2 : Bool) (t2 b2 : Value) (s3 : Bool) (t3 b3 : Value) (s4 : Bool) (t4 b4 : Value) : ∃ W, ((w.alloc (.cells #[.bool s1, t1, b1, .bool s2, t2, b2] 70)).alloc (.cells #[.bool s3, t3, b3, .bool s4, t4, b4] 70)).alloc (.cells #[.bool false, .slice none 0 0, .slice none 0 0, .bool false, .slice none 0 0, .slice none 0 0] 70) = W ∧
    Q w W ∧ Sp W w.heap.size s1 t1 b1 s2 t2 b2 ∧ Sp W (w.heap.size + 1) s3 t3 b3 s4 t4 b4 ∧ Sp W (w.heap.size + 1 + 1) false (.slice none 0 0) (.slice none 0 0) false (.slice none 0 0) (.slice none 0 0) := by
  have h1 := Sp.new w s1 t1 b1 s2 t2 b2
  have h2 := Sp.new (w.alloc (.cells #[.bool s1, t1, b1, .bool s2, t2, b2] 70)) s3 t3 b3 s4 t4 b4
  have h3 := Sp.new ((w.alloc (.cells #[.bool s1, t1, b1, .bool s2, t2, b2] 70)).alloc (.cells #[.bool s3, t3, b3, .bool s4, t4, b4] 70)) false (.slice none 0 0) (.slice none 0 0) false (.slice none 0 0) (.slice none 0 0)
  rw [World.size_alloc] at h2 h3
  rw [World.size_alloc] at h3
  exact ⟨_, rfl, (((Q.refl _).alloc _).alloc _).alloc _, (h1.q ((Q.refl _).alloc _)).q ((Q.refl _).alloc _), h2.q ((Q.refl _).alloc _), h3⟩
end Go.Proofs.YtgokbhikgdhmpaaGreatDoor
