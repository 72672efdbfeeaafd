/- x. Part of the proof: texts Ka6. -/
import Derived.Test.YtgokbhikgdhmpaaGreatDoorQy06
namespace Go.Proofs.YtgokbhikgdhmpaaGreatDoor.K
open Go.RowKit
open Ma Me
section
variable {P : Program} {ops : Array Oper} {Q' : Exit → Act → World → Prop} {F : (Nat → Value) → Act} {a : Act} {w : World}
theorem aJ {id : Nat} (l : List Vs) (hF : ∀ vals, Ja.fillL vals ops.toList 0 a = F vals) (hstep : Ctx ops a F → Ja.Steps P ops (JC w ops l [] []) F 0 ops.toList)
  (hend : ∀ vals w', Q w w' → (∀ j, j < ops.size → SL l j (vals j) w') → Q' .normal (F vals) w') (hsh : (Ja.shape ops && Region.noSelect ops && Ja.inBounds ops a.tmps.size) = true := by kernel_rfl) : (Code.region id ops false).wp P Q' a w :=
 aN w l [] [] hsh (At0.of (Q.refl _) trivial trivial trivial) hF hstep (fun _ vals w' hall hJ => hend vals w' hJ.q (fun j hj => hJ.s j (hall j hj)))
theorem jI {id : Nat} (l : List Vs) (hF : ∀ vals, Ja.fillL vals ops.toList 0 a = F vals) (hstep : Ctx ops a F → Ja.Steps P ops (JC w ops l [] []) F 0 ops.toList)
  (hend : ∀ vals w', Q w w' → (∀ j, j < ops.size → SL l j (vals j) w') → Q' .normal (F vals) w') (hm : P.follows .mixedOrders = true := by kernel_rfl) (hsh : (Ja.shape ops && Region.noSelect ops && Ja.inBounds ops a.tmps.size) = true := by kernel_rfl) : (Code.region id ops true).wp P Q' a w :=
 bF w l [] [] hm hsh (At0.of (Q.refl _) trivial trivial trivial) hF hstep (fun _ vals w' hall hJ => hend vals w' hJ.q (fun j hj => hJ.s j (hall j hj)))
end
theorem dZ {w : World} {g : Nat} {t : TypeId} {v : Value} {q : Rat} (h : NbV w g t [.i, .s, .s] v) (hq : Rq w v q) : ∃ A1 k1 c1 A2 k2 c2, Bx w g t [.int .i64 (sn q), .slice A1 k1 c1, .slice A2 k2 c2] ∧ Rq w (.agg #[.int .i64 (sn q), .slice A1 k1 c1, .slice A2 k2 c2]) q := by
 have hq2 := hq;obtain ⟨A1, n1, c1, A2, n2, c2, rfl, -⟩ := hq2;exact ⟨_, _, _, _, _, _, NbV.out (row := [.int .i64 (sn q), .slice A1 n1 c1, .slice A2 n2 c2]) h, hq⟩
theorem aT {w0 w : World} {g : Nat} {t : TypeId} {s : Int} {A1 A2 : Option Addr} {k1 c1 k2 c2 : Nat} (h : Bx w g t [.int .i64 s, .slice A1 k1 c1, .slice A2 k2 c2]) (hg : w0.heap.size ≤ g) {P : Prop} : P → w0.heap.size ≤ g ∧ NbV w g t [.i, .s, .s] (.agg #[.int .i64 s, .slice A1 k1 c1, .slice A2 k2 c2]) :=
 fun _ => ⟨hg, _, rfl, ⟨⟨_, rfl⟩, ⟨_, _, _, rfl⟩, ⟨_, _, _, rfl⟩, trivial⟩, h⟩
theorem jA {fn : Func} {R : Ending → World → Prop} {a : Act} {w : World} {g : Nat} {t T : TypeId} {c : Nat} {v0 v1 v2 : Value} (hb : Bx w g t [v0, v1, v2]) (hR : R (.returned (.agg #[v0, v1, v2])) w)
  (hres : fn.results = #[.cell c T] := by rfl) (hslot : a.tmps.getD c undef = .pointer (some ⟨g, 0, none⟩) := by kernel_rfl) (hT : ∀ w, Sem.run Tryz.prog (isAgg T) w = .ok true w := by intro _; kernel_rfl) (hS : ∀ w, Sem.run Tryz.prog (sizeOf T) w = .ok 3 w := by intro _; kernel_rfl)
  (hd : a.defers = [] := by rfl) : bodyPost Tryz.prog fn R .ret a w := by
 have h0 := hb.cell 0 rfl;have h1 := hb.cell 1 rfl;have h2 := hb.cell 2 rfl;refine bodyPost_ret (v := .agg #[v0, v1, v2]) ?_ hd hR;unfold results;rw [hres];rw [Array.getD_eq_getD_getElem?] at hslot;simp [go_sem, hslot, hT, hS, loadVar, loadCells, loadCellsFrom, Addr.add, h0, h1, h2]
end Go.Proofs.YtgokbhikgdhmpaaGreatDoor.K
