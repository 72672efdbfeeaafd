/- ValueKnown (examples): the law holds. No condition.. Part of the proof: texts Je4. -/
import Derived.Test.YtgokbhikgdhmpaaGreatDoorQk20
import Derived.Test.YtgokbhikgdhmpaaGreatDoorQk25
import Derived.Test.YtgokbhikgdhmpaaGreatDoorQk27
namespace Go.Proofs.YtgokbhikgdhmpaaGreatDoor.K
open Go.RowKit
open Ma Me
def Sx (w : World) (g : Nat) (t : TypeId) (l : List ByteArray) : Prop := w.heap[g]? = some (.cells (l.map Value.string).toArray t (0, 0))
theorem Sx.lt {w : World} {g : Nat} {t : TypeId} {l : List ByteArray} (h : Sx w g t l) : g < w.heap.size := by
 rcases Nat.lt_or_ge g w.heap.size with hlt | hge
 ·exact hlt
 ·unfold Sx at h; rw [Array.getElem?_eq_none hge] at h; cases h
theorem Sx.q {w w' : World} {g : Nat} {t : TypeId} {l : List ByteArray} (h : Sx w g t l) (hq : Q w w') : Sx w' g t l := (hq.heap h.lt).trans h
theorem Sx.cell {w : World} {g : Nat} {t : TypeId} {l : List ByteArray} (h : Sx w g t l) {i : Nat} (hi : i < l.length) : w.cell? ⟨g, i, none⟩ = some (.string (l.getD i ⟨#[]⟩)) := by
 unfold Sx at h
 simp [World.cell?, h, hi]
theorem Sx.new (w : World) (t : TypeId) (l : List ByteArray) : Sx (w.alloc (.cells (l.map Value.string).toArray t)) w.heap.size t l := heap_alloc_new w _
theorem ofL_list (s : ByteArray) : ofL s.data.toList = s := by cases s; rfl
def badL : List ByteArray := [({ data := #[54, 47, 56] } : ByteArray), ({ data := #[45, 48] } : ByteArray), ({ data := #[48, 53] } : ByteArray), ({ data := #[51, 47, 49] } : ByteArray), ({ data := #[48, 47, 51] } : ByteArray), ({ data := #[43, 49] } : ByteArray), ({ data := #[49, 47] } : ByteArray)]
def badE (i : Nat) : ByteArray := badL.getD i ⟨#[]⟩
def noneL : List ByteArray := [({ data := #[46, 53] } : ByteArray), ({ data := #[49, 46] } : ByteArray), ({ data := #[50, 75] } : ByteArray), ({ data := #[49, 101, 51] } : ByteArray), ({ data := #[51, 32, 107] } : ByteArray)]
def noneE (i : Nat) : ByteArray := noneL.getD i ⟨#[]⟩
def readL : List ByteArray := [({ data := #[52, 46, 55, 107] } : ByteArray), ({ data := #[45, 49, 48, 48, 110] } : ByteArray), ({ data := #[48, 48, 55] } : ByteArray), ({ data := #[48, 46, 48, 48, 55, 107] } : ByteArray), ({ data := #[49, 47, 51] } : ByteArray)]
def readE (i : Nat) : ByteArray := readL.getD i ⟨#[]⟩
def wantL : List ByteArray := [({ data := #[52, 55, 48, 48] } : ByteArray), ({ data := #[45, 49, 47, 49, 48, 48, 48, 48, 48, 48, 48] } : ByteArray), ({ data := #[55] } : ByteArray), ({ data := #[55] } : ByteArray), ({ data := #[49, 47, 51] } : ByteArray)]
def wantE (i : Nat) : ByteArray := wantL.getD i ⟨#[]⟩
def textsL : List ByteArray := [({ data := #[52, 55, 48, 48] } : ByteArray), ({ data := #[49, 47, 51] } : ByteArray), ({ data := #[45, 49, 47, 49, 48, 48, 48, 48, 48, 48, 48] } : ByteArray), ({ data := #[49, 48, 48, 48] } : ByteArray), ({ data := #[57, 57, 57] } : ByteArray), ({ data := #[49, 47, 50, 48, 48, 48, 48, 48, 48, 48, 48, 48, 48, 48, 48, 48, 48, 48] } : ByteArray), ({ data := #[49, 48, 48, 48, 48, 48, 48, 48, 48, 48, 48, 48, 48, 48, 48, 48, 48, 48, 48] } : ByteArray), ({ data := #[48] } : ByteArray), ({ data := #[49, 47, 49, 48, 50, 52] } : ByteArray)]
def textsE (i : Nat) : ByteArray := textsL.getD i ⟨#[]⟩
def shownL : List ByteArray := [({ data := #[52, 46, 55, 107] } : ByteArray), ({ data := #[49, 47, 51] } : ByteArray), ({ data := #[45, 49, 48, 48, 110] } : ByteArray), ({ data := #[49, 107] } : ByteArray), ({ data := #[57, 57, 57] } : ByteArray), ({ data := #[48, 46, 53, 102] } : ByteArray), ({ data := #[49, 48, 48, 48, 48, 48, 48, 84] } : ByteArray), ({ data := #[48] } : ByteArray), ({ data := #[57, 55, 54, 46, 53, 54, 50, 53, 117] } : ByteArray)]
def shownE (i : Nat) : ByteArray := shownL.getD i ⟨#[]⟩
theorem bad_all : ∀ i, i < 7 → (parseS (badE i).data.toList).1 = 6 ∧ (badE i).size ≤ 100 := by decide +kernel
theorem none_all : ∀ i, i < 5 → (readS (noneE i).data.toList).1 = 6 ∧ (noneE i).size ≤ 100 := by decide +kernel
theorem read_all : ∀ i, i < 5 → (readS (readE i).data.toList).1 = 0 ∧ (readE i).size ≤ 100 ∧ textQ (readS (readE i).data.toList).2 = (wantE i).data.toList := by decide +kernel
theorem texts_all : ∀ i, i < 9 → (parseS (textsE i).data.toList).1 = 0 ∧ (textsE i).size ≤ 100 ∧ showQ (parseS (textsE i).data.toList).2 = (shownE i).data.toList := by decide +kernel
set_option maxRecDepth 100000 in
set_option maxHeartbeats 8000000 in
theorem q_ValueKnown (w : World) (hT : Tb w) (hPx : Px w) :
    Calls Tryz.prog 15 #[] w fun e w' => e = .returned (.bool true) ∧ Q w w' := by
  go_enter Tryz.func15, Tryz.ntmps15
  obtain ⟨wA, hWA, hqA, hA⟩ : ∃ x, w.alloc (.cells #[.string { data := #[54, 47, 56] }, .string { data := #[45, 48] }, .string { data := #[48, 53] }, .string { data := #[51, 47, 49] }, .string { data := #[48, 47, 51] }, .string { data := #[43, 49] }, .string { data := #[49, 47] }] 9) = x ∧ Q w x ∧ Sx x w.heap.size 9 badL := ⟨_, rfl, (Q.refl _).alloc _, Sx.new w 9 badL⟩
  go_wp2_with fail
  clear hWA
  go_loopw [2] (fun iv w1 => ∃ i : Nat, iv = .int .i64 (i : Int) ∧ i ≤ 7 ∧ Q wA w1) (fun iv _ => 7 - (intOf iv).toNat)
  case atStart => exact ⟨0, rfl, by omega, Q.refl _⟩
  case round =>
    obtain ⟨i, rfl, hi, hqr⟩ := hrel
    have hGr := hqA.trans hqr
    by_cases hp : i < 7
    · have h1 : (i : Int) < 7 := by omega
      have h0 : (0 : Int) ≤ (i : Int) := by omega
      have h2 : (i : Int).toNat = i := rfl
      have z0 : wr.cell? ⟨w.heap.size, i, none⟩ = some (.string (badE i)) := (hA.q hqr).cell (by exact hp)
      have hb9 := bad_all i hp
      generalize badE i = s at z0 hb9
      obtain ⟨e1, e2⟩ := hb9
      have E1 := Lib.hid e1; have E2 := Lib.hid e2; clear e1 e2
      go_wp2_with fail
      (with_reducible refine (q_Check s _ (hT.q hGr) (by have := E2.out; omega)).mono ?_)
      rintro e w2 ⟨rfl, hq2⟩
      rw [E1.out]
      go_wp2_with fail
      exact ⟨⟨i + 1, rfl, by omega, hqr.trans hq2⟩, by simp [intOf]; omega⟩
    · have h1 : ¬ (i : Int) < 7 := by omega
      generalize wr = v1 at *
      have hG1 := hGr; clear hGr hqr hi hp
      clear hA hqA
      obtain ⟨wB, hWB, hqB, hB⟩ : ∃ x, v1.alloc (.cells #[.string { data := #[46, 53] }, .string { data := #[49, 46] }, .string { data := #[50, 75] }, .string { data := #[49, 101, 51] }, .string { data := #[51, 32, 107] }] 9) = x ∧ Q v1 x ∧ Sx x v1.heap.size 9 noneL := ⟨_, rfl, (Q.refl _).alloc _, Sx.new v1 9 noneL⟩
      go_wp2_with fail
      clear hWB h1
      have hG2 := hG1.trans hqB
      go_loopw [4] (fun iv w1 => ∃ i : Nat, iv = .int .i64 (i : Int) ∧ i ≤ 5 ∧ Q wB w1) (fun iv _ => 5 - (intOf iv).toNat)
      case atStart => exact ⟨0, rfl, by omega, Q.refl _⟩
      case round =>
        obtain ⟨i, rfl, hi, hqr⟩ := hrel
        have hGr := hG2.trans hqr
        by_cases hp : i < 5
        · have h1 : (i : Int) < 5 := by omega
          have h0 : (0 : Int) ≤ (i : Int) := by omega
          have h2 : (i : Int).toNat = i := rfl
          have hb9 := none_all i hp
          obtain ⟨e1, e2⟩ := hb9
          have E1 := Lib.hid e1; have E2 := Lib.hid e2; clear e1 e2
          have hB3 := hB.q hqr
          have hG3 := hGr
          generalize wr = w3 at *
          clear hGr
          go_upto_region 11 with fail
          have hAt3 : At0 w3 [{ al := some 8, g := 0, t := 25, ck := [.b, .s, .s], row := .agg #[.bool false, .slice none 0 0, .slice none 0 0], st := 9, src := 6 }] [] w3 := At0.of (Q.refl _) ⟨fun h => (by cases h), trivial⟩ (by simp [Apart0]) trivial
          refine text_cells (F := ?F1) w3 ([.eq (.slice (some ⟨v1.heap.size, 0, none⟩) 5 5), .eq (.int .i64 ((i : Int))), .eq (.pointer (some ⟨v1.heap.size, i, none⟩)), .eq (.string ((noneE i))), .gen (pT2 (pNum ((readS (noneE i).data.toList).2)) (pEq (.int .i64 (6)))), .gen (pT2 (pNum ((readS (noneE i).data.toList).2)) (pEq (.int .i64 (6)))), .gen (pNum ((readS (noneE i).data.toList).2)), .eq (.int .i64 (6)), .any, .any, .eq (.int .i64 (6))] : List Vs) _ _ (by kernel_rfl) hAt3 ?hF1 ?st1 ?en1
          case hF1 =>
            intro vals
            simp only [Ja.fillL, Act.put, List.setIfInBounds_toArray, List.set_cons_zero, List.set_cons_succ, Nat.reduceAdd]
            exact rfl
          case st1 =>
            clear hAt3
            intro hctx
            refine JC.o hctx ?_ ?_
            · intro L vals W hL hJ hd K hK
              go_simp
              exact hK.out (.slice (some ⟨v1.heap.size, 0, none⟩) 5 5) _ _ (by kernel_rfl) rfl (Q.refl _)
            refine JC.o hctx ?_ ?_
            · intro L vals W hL hJ hd K hK
              go_simp
              exact hK.out (.int .i64 ((i : Int))) _ _ (by kernel_rfl) rfl (Q.refl _)
            refine JC.o hctx ?_ ?_
            · intro L vals W hL hJ hd K hK
              have d0 : vals 0 = .slice (some ⟨v1.heap.size, 0, none⟩) 5 5 := hd 0 (by kernel_rfl)
              generalize vals 0 = u0 at d0 hK ⊢
              subst d0
              have d1 : vals 1 = .int .i64 ((i : Int)) := hd 1 (by kernel_rfl)
              generalize vals 1 = u1 at d1 hK ⊢
              subst d1
              go_simp
              exact hK.out (.pointer (some ⟨v1.heap.size, i, none⟩)) _ _ (by kernel_rfl) rfl (Q.refl _)
            refine JC.o hctx ?_ ?_
            · intro L vals W hL hJ hd K hK
              have hN := hJ.q
              have d2 : vals 2 = .pointer (some ⟨v1.heap.size, i, none⟩) := hd 2 (by kernel_rfl)
              generalize vals 2 = u2 at d2 hK ⊢
              subst d2
              have z0 : W.cell? ⟨v1.heap.size, i, none⟩ = some (.string ((noneE i))) := ((hB3.q hN).cell (by exact hp))
              go_simp
              exact hK.out (.string ((noneE i))) _ _ (by kernel_rfl) rfl (Q.refl _)
            refine JC.o hctx ?_ ?_
            · intro L vals W hL hJ hd K hK
              have hN := hJ.q
              have hQ := hG3.trans hN
              have d3 : vals 3 = .string ((noneE i)) := hd 3 (by kernel_rfl)
              generalize vals 3 = u3 at d3 hK ⊢
              subst d3
              go_simp
              (with_reducible refine (q_Read (noneE i) W (hT.q hQ) (hPx.q hQ) (by have := E2.out; omega)).mono ?_)
              rintro e W9 ⟨r, rfl, hr, hq9⟩
              exact hK.out (.tuple #[r, .int .i64 (readS ((noneE i) : ByteArray).data.toList).1]) W9 _ (by kernel_rfl) ⟨_, _, rfl, hr, congrArg (Value.int .i64) E1.out⟩ hq9
            refine JC.o hctx ?_ ?_
            · intro L vals W hL hJ hd K hK
              have d4 : (pT2 (pNum ((readS (noneE i).data.toList).2)) (pEq (.int .i64 (6)))).p (vals 4) W := hd 4 (by kernel_rfl)
              go_simp
              exact hK.out (vals 4) _ _ (by kernel_rfl) d4 (Q.refl _)
            refine JC.o hctx ?_ ?_
            · intro L vals W hL hJ hd K hK
              have d5 : (pT2 (pNum ((readS (noneE i).data.toList).2)) (pEq (.int .i64 (6)))).p (vals 5) W := hd 5 (by kernel_rfl)
              generalize vals 5 = u5 at d5 hK ⊢
              obtain ⟨e0, e1, rfl, he0, he1⟩ := d5
              go_simp
              exact hK.out (e0) _ _ (by kernel_rfl) he0 (Q.refl _)
            refine JC.o hctx ?_ ?_
            · intro L vals W hL hJ hd K hK
              have d5 : (pT2 (pNum ((readS (noneE i).data.toList).2)) (pEq (.int .i64 (6)))).p (vals 5) W := hd 5 (by kernel_rfl)
              generalize vals 5 = u5 at d5 hK ⊢
              obtain ⟨e0, e1, rfl, he0, he1⟩ := d5
              obtain rfl : e1 = .int .i64 (6) := he1
              go_simp
              exact hK.out (.int .i64 (6)) _ _ (by kernel_rfl) rfl (Q.refl _)
            refine Ja.Steps.cons (JC.alloc (n := 0) (cells := [.bool false, .slice none 0 0, .slice none 0 0].toArray) (t := 25) hctx (by kernel_rfl) (by rfl) (by kernel_rfl) (by rfl) (by rfl) (by kernel_rfl) (by rfl) (fun W => NbV.mk (t := 25) (ck := [.b, .s, .s]) (row := [.bool false, .slice none 0 0, .slice none 0 0]) ⟨⟨_, rfl⟩, ⟨_, _, _, rfl⟩, ⟨_, _, _, rfl⟩, trivial⟩ (Bx.new W _ _)) ?_) ?_
            · intro vals W K hK
              go_simp
              exact hK.out _ (by kernel_rfl)
            refine Ja.Steps.cons (JC.store (n := 0) hctx (by kernel_rfl) (by rfl) (by kernel_rfl) (by rfl) (show (25 : TypeId) ≠ 2 by decide) (by rfl) (by kernel_rfl) (by rfl) (by kernel_rfl) ?_) ?_
            · intro L vals W g old hJ hp ho hs K hK
              have hs9 : Nq W (vals 6) ((readS (noneE i).data.toList).2) := hs
              have hp9 : vals 8 = .pointer (some ⟨g, 0, none⟩) := hp
              dsimp only at hK
              generalize vals 8 = ua at hp9 hK ⊢
              subst hp9
              generalize vals 6 = uj at hs9 hK ⊢
              obtain ⟨se0, Ae1, ke1, ce1, Ae2, ke2, ce2, rfl, -⟩ := Nq.form hs9
              obtain ⟨rowo, ho1, hso, hb⟩ := ho
              have fz := hb.frozen
              have hox := NbV.ex (⟨rowo, rfl, hso, hb⟩ : NbV W (g) 25 [.b, .s, .s] _)
              clear hb hso ho1
              obtain ⟨so0, Ao1, ko1, co1, Ao2, ko2, co2, -, hb⟩ := hox
              have r0 := hb.cell 0 rfl
              have r1 := hb.cell 1 rfl
              have r2 := hb.cell 2 rfl
              clear hb
              go_simp
              exact hK.out undef _ _ (by kernel_rfl) ⟨_, rfl, ⟨⟨_, rfl⟩, ⟨_, _, _, rfl⟩, ⟨_, _, _, rfl⟩, trivial⟩, rfl⟩
            refine JC.o hctx ?_ ?_
            · intro L vals W hL hJ hd K hK
              have d7 : vals 7 = .int .i64 (6) := hd 7 (by kernel_rfl)
              generalize vals 7 = u7 at d7 hK ⊢
              subst d7
              go_simp
              exact hK.out (.int .i64 (6)) _ _ (by kernel_rfl) rfl (Q.refl _)
            exact Ja.Steps.nil
          intro L vals w4 hall hJ
          clear hAt3
          have hq4 := hJ.q
          have hG4 := hG3.trans hq4
          have hB4 := hB3.q hq4
          clear hG3 hB3
          obtain ⟨gZ, eZ, geZ, qZ⟩ := hJ.fresh 0 rfl rfl (hall 8 (by decide)) (hall 9 (by decide))
          have nZ4 : Nq w4 (vals 6) ((readS (noneE i).data.toList).2) := hJ.s 6 (hall 6 (by decide))
          have qxZ := NbV.ex qZ
          obtain ⟨sZ0, AZ1, kZ1, cZ1, AZ2, kZ2, cZ2, yZ, hZ4⟩ := qxZ
          change Bx w4 (gZ) 25 [.bool sZ0, .slice AZ1 kZ1 cZ1, .slice AZ2 kZ2 cZ2] at hZ4
          try dsimp only at yZ
          rw [yZ] at nZ4
          clear yZ qZ
          rw [eZ]
          clear eZ
          have f6 : vals 10 = .int .i64 (6) := hJ.s 10 (hall 10 (by decide))
          rw [f6]
          clear f6
          clear hall hJ
          have hq9 := hq4
          go_wp2_with fail
          exact ⟨⟨i + 1, rfl, by omega, hqr.trans hq9⟩, by simp [intOf]; omega⟩
        · have h1 : ¬ (i : Int) < 5 := by omega
          generalize wr = v2 at *
          have hG5 := hGr; clear hGr hqr hi hp
          clear hB hG1 hG2 hqB
          obtain ⟨wC, hWC, hqC, hC⟩ : ∃ x, v2.alloc (.cells #[.string { data := #[52, 46, 55, 107] }, .string { data := #[45, 49, 48, 48, 110] }, .string { data := #[48, 48, 55] }, .string { data := #[48, 46, 48, 48, 55, 107] }, .string { data := #[49, 47, 51] }] 9) = x ∧ Q v2 x ∧ Sx x v2.heap.size 9 readL := ⟨_, rfl, (Q.refl _).alloc _, Sx.new v2 9 readL⟩
          obtain ⟨wD, hWD, hqD, hD⟩ : ∃ x, wC.alloc (.cells #[.string { data := #[52, 55, 48, 48] }, .string { data := #[45, 49, 47, 49, 48, 48, 48, 48, 48, 48, 48] }, .string { data := #[55] }, .string { data := #[55] }, .string { data := #[49, 47, 51] }] 29) = x ∧ Q wC x ∧ Sx x wC.heap.size 29 wantL := ⟨_, rfl, (Q.refl _).alloc _, Sx.new wC 29 wantL⟩
          go_wp2_with fail
          clear hWC hWD h1
          have hC2 := hC.q hqD
          have hG6 := (hG5.trans hqC).trans hqD
          go_loopw [9] (fun iv w1 => ∃ i : Nat, iv = .int .i64 (i : Int) ∧ i ≤ 5 ∧ Q wD w1) (fun iv _ => 5 - (intOf iv).toNat)
          case atStart => exact ⟨0, rfl, by omega, Q.refl _⟩
          case round =>
            obtain ⟨i, rfl, hi, hqr⟩ := hrel
            have hGr := hG6.trans hqr
            by_cases hp : i < 5
            · have h1 : (i : Int) < 5 := by omega
              have h0 : (0 : Int) ≤ (i : Int) := by omega
              have h2 : (i : Int).toNat = i := rfl
              have hb9 := read_all i hp
              obtain ⟨e1, e2, e3⟩ := hb9
              have E1 := Lib.hid e1; have E2 := Lib.hid e2; have E3 := Lib.hid e3; clear e1 e2 e3
              have hC3 := hC2.q hqr
              have hD3 := hD.q hqr
              have hG3 := hGr
              generalize wr = w3 at *
              clear hGr
              go_upto_region 19 with fail
              obtain ⟨x9, Hx9⟩ : ∃ x : Rat, Hid (x = (readS (readE i : ByteArray).data.toList).2) := ⟨_, Lib.hid rfl⟩
              have Z1 : Hid (sz (x9) ≤ 2000) := Lib.hid (by rw [Hx9.out]; exact read_sz _)
              have hAt3 : At0 w3 [{ al := some 8, g := 0, t := 25, ck := [.b, .s, .s], row := .agg #[.bool false, .slice none 0 0, .slice none 0 0], st := 9, src := 6 }] [] w3 := At0.of (Q.refl _) ⟨fun h => (by cases h), trivial⟩ (by simp [Apart0]) trivial
              refine text_cells (F := ?F2) w3 ([.eq (.slice (some ⟨v2.heap.size, 0, none⟩) 5 5), .eq (.int .i64 ((i : Int))), .eq (.pointer (some ⟨v2.heap.size, i, none⟩)), .eq (.string ((readE i))), .gen (pT2 (pNum (x9)) (pEq (.int .i64 (0)))), .gen (pT2 (pNum (x9)) (pEq (.int .i64 (0)))), .gen (pNum (x9)), .eq (.int .i64 (0)), .any, .any, .eq (.int .i64 (0))] : List Vs) _ _ (by kernel_rfl) hAt3 ?hF2 ?st2 ?en2
              case hF2 =>
                intro vals
                simp only [Ja.fillL, Act.put, List.setIfInBounds_toArray, List.set_cons_zero, List.set_cons_succ, Nat.reduceAdd]
                exact rfl
              case st2 =>
                clear hAt3
                intro hctx
                refine JC.o hctx ?_ ?_
                · intro L vals W hL hJ hd K hK
                  go_simp
                  exact hK.out (.slice (some ⟨v2.heap.size, 0, none⟩) 5 5) _ _ (by kernel_rfl) rfl (Q.refl _)
                refine JC.o hctx ?_ ?_
                · intro L vals W hL hJ hd K hK
                  go_simp
                  exact hK.out (.int .i64 ((i : Int))) _ _ (by kernel_rfl) rfl (Q.refl _)
                refine JC.o hctx ?_ ?_
                · intro L vals W hL hJ hd K hK
                  have d0 : vals 0 = .slice (some ⟨v2.heap.size, 0, none⟩) 5 5 := hd 0 (by kernel_rfl)
                  generalize vals 0 = u0 at d0 hK ⊢
                  subst d0
                  have d1 : vals 1 = .int .i64 ((i : Int)) := hd 1 (by kernel_rfl)
                  generalize vals 1 = u1 at d1 hK ⊢
                  subst d1
                  go_simp
                  exact hK.out (.pointer (some ⟨v2.heap.size, i, none⟩)) _ _ (by kernel_rfl) rfl (Q.refl _)
                refine JC.o hctx ?_ ?_
                · intro L vals W hL hJ hd K hK
                  have hN := hJ.q
                  have d2 : vals 2 = .pointer (some ⟨v2.heap.size, i, none⟩) := hd 2 (by kernel_rfl)
                  generalize vals 2 = u2 at d2 hK ⊢
                  subst d2
                  have z0 : W.cell? ⟨v2.heap.size, i, none⟩ = some (.string ((readE i))) := ((hC3.q hN).cell (by exact hp))
                  go_simp
                  exact hK.out (.string ((readE i))) _ _ (by kernel_rfl) rfl (Q.refl _)
                refine JC.o hctx ?_ ?_
                · intro L vals W hL hJ hd K hK
                  have hN := hJ.q
                  have hQ := hG3.trans hN
                  have d3 : vals 3 = .string ((readE i)) := hd 3 (by kernel_rfl)
                  generalize vals 3 = u3 at d3 hK ⊢
                  subst d3
                  go_simp
                  (with_reducible refine (q_Read (readE i) W (hT.q hQ) (hPx.q hQ) (by have := E2.out; omega)).mono ?_)
                  rintro e W9 ⟨r, rfl, hr, hq9⟩
                  exact hK.out (.tuple #[r, .int .i64 (readS ((readE i) : ByteArray).data.toList).1]) W9 _ (by kernel_rfl) ⟨_, _, rfl, (by have h7 := hr; rw [← Hx9.out] at h7; exact h7), congrArg (Value.int .i64) E1.out⟩ hq9
                refine JC.o hctx ?_ ?_
                · intro L vals W hL hJ hd K hK
                  have d4 : (pT2 (pNum (x9)) (pEq (.int .i64 (0)))).p (vals 4) W := hd 4 (by kernel_rfl)
                  go_simp
                  exact hK.out (vals 4) _ _ (by kernel_rfl) d4 (Q.refl _)
                refine JC.o hctx ?_ ?_
                · intro L vals W hL hJ hd K hK
                  have d5 : (pT2 (pNum (x9)) (pEq (.int .i64 (0)))).p (vals 5) W := hd 5 (by kernel_rfl)
                  generalize vals 5 = u5 at d5 hK ⊢
                  obtain ⟨e0, e1, rfl, he0, he1⟩ := d5
                  go_simp
                  exact hK.out (e0) _ _ (by kernel_rfl) he0 (Q.refl _)
                refine JC.o hctx ?_ ?_
                · intro L vals W hL hJ hd K hK
                  have d5 : (pT2 (pNum (x9)) (pEq (.int .i64 (0)))).p (vals 5) W := hd 5 (by kernel_rfl)
                  generalize vals 5 = u5 at d5 hK ⊢
                  obtain ⟨e0, e1, rfl, he0, he1⟩ := d5
                  obtain rfl : e1 = .int .i64 (0) := he1
                  go_simp
                  exact hK.out (.int .i64 (0)) _ _ (by kernel_rfl) rfl (Q.refl _)
                refine Ja.Steps.cons (JC.alloc (n := 0) (cells := [.bool false, .slice none 0 0, .slice none 0 0].toArray) (t := 25) hctx (by kernel_rfl) (by rfl) (by kernel_rfl) (by rfl) (by rfl) (by kernel_rfl) (by rfl) (fun W => NbV.mk (t := 25) (ck := [.b, .s, .s]) (row := [.bool false, .slice none 0 0, .slice none 0 0]) ⟨⟨_, rfl⟩, ⟨_, _, _, rfl⟩, ⟨_, _, _, rfl⟩, trivial⟩ (Bx.new W _ _)) ?_) ?_
                · intro vals W K hK
                  go_simp
                  exact hK.out _ (by kernel_rfl)
                refine Ja.Steps.cons (JC.store (n := 0) hctx (by kernel_rfl) (by rfl) (by kernel_rfl) (by rfl) (show (25 : TypeId) ≠ 2 by decide) (by rfl) (by kernel_rfl) (by rfl) (by kernel_rfl) ?_) ?_
                · intro L vals W g old hJ hp ho hs K hK
                  have hs9 : Nq W (vals 6) (x9) := hs
                  have hp9 : vals 8 = .pointer (some ⟨g, 0, none⟩) := hp
                  dsimp only at hK
                  generalize vals 8 = ua at hp9 hK ⊢
                  subst hp9
                  generalize vals 6 = uj at hs9 hK ⊢
                  obtain ⟨se0, Ae1, ke1, ce1, Ae2, ke2, ce2, rfl, -⟩ := Nq.form hs9
                  obtain ⟨rowo, ho1, hso, hb⟩ := ho
                  have fz := hb.frozen
                  have hox := NbV.ex (⟨rowo, rfl, hso, hb⟩ : NbV W (g) 25 [.b, .s, .s] _)
                  clear hb hso ho1
                  obtain ⟨so0, Ao1, ko1, co1, Ao2, ko2, co2, -, hb⟩ := hox
                  have r0 := hb.cell 0 rfl
                  have r1 := hb.cell 1 rfl
                  have r2 := hb.cell 2 rfl
                  clear hb
                  go_simp
                  exact hK.out undef _ _ (by kernel_rfl) ⟨_, rfl, ⟨⟨_, rfl⟩, ⟨_, _, _, rfl⟩, ⟨_, _, _, rfl⟩, trivial⟩, rfl⟩
                refine JC.o hctx ?_ ?_
                · intro L vals W hL hJ hd K hK
                  have d7 : vals 7 = .int .i64 (0) := hd 7 (by kernel_rfl)
                  generalize vals 7 = u7 at d7 hK ⊢
                  subst d7
                  go_simp
                  exact hK.out (.int .i64 (0)) _ _ (by kernel_rfl) rfl (Q.refl _)
                exact Ja.Steps.nil
              intro L vals w4 hall hJ
              clear hAt3
              have hq4 := hJ.q
              have hG4 := hG3.trans hq4
              have hC4 := hC3.q hq4
              have hD4 := hD3.q hq4
              clear hG3 hC3 hD3
              obtain ⟨gZ, eZ, geZ, qZ⟩ := hJ.fresh 0 rfl rfl (hall 8 (by decide)) (hall 9 (by decide))
              have nZ4 : Nq w4 (vals 6) (x9) := hJ.s 6 (hall 6 (by decide))
              have qxZ := NbV.ex qZ
              obtain ⟨sZ0, AZ1, kZ1, cZ1, AZ2, kZ2, cZ2, yZ, hZ4⟩ := qxZ
              change Bx w4 (gZ) 25 [.bool sZ0, .slice AZ1 kZ1 cZ1, .slice AZ2 kZ2 cZ2] at hZ4
              try dsimp only at yZ
              rw [yZ] at nZ4
              clear yZ qZ
              rw [eZ]
              clear eZ
              have f11 : vals 10 = .int .i64 (0) := hJ.s 10 (hall 10 (by decide))
              rw [f11]
              clear f11
              clear hall hJ
              go_upto_region 20 with fail
              have hq94 := hq4
              have hAt4 : At0 w4 [] [] w4 := At0.of (Q.refl _) trivial (by simp [Apart0]) trivial
              refine region_cells (F := ?F3) w4 ([.eq (.int .i64 (0)), .eq (.bool false), .eq (.bool false), .gen (pNum (x9)), .eq (.string ((wantE i))), .eq (.slice (some ⟨wC.heap.size, 0, none⟩) 5 5), .eq (.int .i64 ((i : Int))), .eq (.pointer (some ⟨wC.heap.size, i, none⟩)), .eq (.string ((wantE i))), .eq (.bool false), .eq (.bool false)] : List Vs) _ _ (by kernel_rfl) (by kernel_rfl) hAt4 ?hF3 ?st3 ?en3
              case hF3 =>
                intro vals
                simp only [Ja.fillL, Act.put, List.setIfInBounds_toArray, List.set_cons_zero, List.set_cons_succ, Nat.reduceAdd]
                exact rfl
              case st3 =>
                clear hAt4
                intro hctx
                refine JC.o hctx ?_ ?_
                · intro L vals W hL hJ hd K hK
                  go_simp
                  exact hK.out (.int .i64 (0)) _ _ (by kernel_rfl) rfl (Q.refl _)
                refine JC.o hctx ?_ ?_
                · intro L vals W hL hJ hd K hK
                  have d0 : vals 0 = .int .i64 (0) := hd 0 (by kernel_rfl)
                  generalize vals 0 = u0 at d0 hK ⊢
                  subst d0
                  go_simp
                  exact hK.out (.bool false) _ _ (by kernel_rfl) rfl (Q.refl _)
                refine JC.o hctx ?_ ?_
                · intro L vals W hL hJ hd K hK
                  have d1 : vals 1 = .bool false := hd 1 (by kernel_rfl)
                  generalize vals 1 = u1 at d1 hK ⊢
                  subst d1
                  go_simp
                  exact hK.out (.bool false) _ _ (by kernel_rfl) rfl (Q.refl _)
                refine JC.o hctx ?_ ?_
                · intro L vals W hL hJ hd K hK
                  have hN := hJ.q
                  have zb := hZ4.q hN
                  have z0 : W.cell? ⟨gZ, 0, none⟩ = some (.bool sZ0) := zb.cell 0 rfl
                  have z1 : W.cell? ⟨gZ, 1, none⟩ = some (.slice AZ1 kZ1 cZ1) := zb.cell 1 rfl
                  have z2 : W.cell? ⟨gZ, 2, none⟩ = some (.slice AZ2 kZ2 cZ2) := zb.cell 2 rfl
                  clear zb
                  go_simp
                  exact hK.out (.agg #[.bool sZ0, .slice AZ1 kZ1 cZ1, .slice AZ2 kZ2 cZ2]) _ _ (by kernel_rfl) ((pNum (x9)).q nZ4 hN) (Q.refl _)
                refine JC.o hctx ?_ ?_
                · intro L vals W hL hJ hd K hK
                  have d3 : Nq W (vals 3) (x9) := hd 3 (by kernel_rfl)
                  go_simp
                  (with_reducible refine (q_Text _ (x9) W d3 (by have h0 := Z1.out; omega)).mono ?_)
                  rintro e W9 ⟨t, rfl, ht, hq9⟩
                  exact hK.out (.string t) W9 _ (by kernel_rfl) (congrArg Value.string ((str_of ht).trans (by rw [show textQ x9 = (wantE i).data.toList from by rw [Hx9.out]; exact E3.out]; exact ofL_list _))) hq9
                refine JC.o hctx ?_ ?_
                · intro L vals W hL hJ hd K hK
                  go_simp
                  exact hK.out (.slice (some ⟨wC.heap.size, 0, none⟩) 5 5) _ _ (by kernel_rfl) rfl (Q.refl _)
                refine JC.o hctx ?_ ?_
                · intro L vals W hL hJ hd K hK
                  go_simp
                  exact hK.out (.int .i64 ((i : Int))) _ _ (by kernel_rfl) rfl (Q.refl _)
                refine JC.o hctx ?_ ?_
                · intro L vals W hL hJ hd K hK
                  have d5 : vals 5 = .slice (some ⟨wC.heap.size, 0, none⟩) 5 5 := hd 5 (by kernel_rfl)
                  generalize vals 5 = u5 at d5 hK ⊢
                  subst d5
                  have d6 : vals 6 = .int .i64 ((i : Int)) := hd 6 (by kernel_rfl)
                  generalize vals 6 = u6 at d6 hK ⊢
                  subst d6
                  go_simp
                  exact hK.out (.pointer (some ⟨wC.heap.size, i, none⟩)) _ _ (by kernel_rfl) rfl (Q.refl _)
                refine JC.o hctx ?_ ?_
                · intro L vals W hL hJ hd K hK
                  have hN := hJ.q
                  have d7 : vals 7 = .pointer (some ⟨wC.heap.size, i, none⟩) := hd 7 (by kernel_rfl)
                  generalize vals 7 = u7 at d7 hK ⊢
                  subst d7
                  have z0 : W.cell? ⟨wC.heap.size, i, none⟩ = some (.string ((wantE i))) := ((hD4.q hN).cell (by exact hp))
                  go_simp
                  exact hK.out (.string ((wantE i))) _ _ (by kernel_rfl) rfl (Q.refl _)
                refine JC.o hctx ?_ ?_
                · intro L vals W hL hJ hd K hK
                  have d4 : vals 4 = .string ((wantE i)) := hd 4 (by kernel_rfl)
                  generalize vals 4 = u4 at d4 hK ⊢
                  subst d4
                  have d8 : vals 8 = .string ((wantE i)) := hd 8 (by kernel_rfl)
                  generalize vals 8 = u8 at d8 hK ⊢
                  subst d8
                  go_simp
                  exact hK.out (.bool false) _ _ (by kernel_rfl) rfl (Q.refl _)
                refine JC.o hctx ?_ ?_
                · intro L vals W hL hJ hd K hK
                  have d2 : vals 2 = .bool false := hd 2 (by kernel_rfl)
                  generalize vals 2 = u2 at d2 hK ⊢
                  subst d2
                  have d9 : vals 9 = .bool false := hd 9 (by kernel_rfl)
                  generalize vals 9 = u9 at d9 hK ⊢
                  subst d9
                  go_simp
                  exact hK.out (.bool false) _ _ (by kernel_rfl) rfl (Q.refl _)
                exact Ja.Steps.nil
              intro L vals w5 hall hJ
              clear hAt4
              have hq5 := hJ.q
              have hG5 := hG4.trans hq5
              have hC5 := hC4.q hq5
              have hD5 := hD4.q hq5
              have hZ5 := hZ4.q hq5
              have nZ5 : Nq w5 (.agg #[.bool sZ0, .slice AZ1 kZ1 cZ1, .slice AZ2 kZ2 cZ2]) (x9) := (pNum (x9)).q nZ4 hq5
              clear hG4 hC4 hD4 hZ4 nZ4
              have f78 : vals 10 = .bool false := hJ.s 10 (hall 10 (by decide))
              rw [f78]
              clear f78
              clear hall hJ
              go_wp2_with fail
              exact ⟨⟨i + 1, rfl, by omega, hqr.trans (hq94.trans hq5)⟩, by simp [intOf]; omega⟩
            · have h1 : ¬ (i : Int) < 5 := by omega
              generalize wr = v3 at *
              have hG7 := hGr; clear hGr hqr hi hp
              clear hC hC2 hD hG5 hG6 hqC hqD
              obtain ⟨wE, hWE, hqE, hE⟩ : ∃ x, v3.alloc (.cells #[.string { data := #[52, 55, 48, 48] }, .string { data := #[49, 47, 51] }, .string { data := #[45, 49, 47, 49, 48, 48, 48, 48, 48, 48, 48] }, .string { data := #[49, 48, 48, 48] }, .string { data := #[57, 57, 57] }, .string { data := #[49, 47, 50, 48, 48, 48, 48, 48, 48, 48, 48, 48, 48, 48, 48, 48, 48, 48] }, .string { data := #[49, 48, 48, 48, 48, 48, 48, 48, 48, 48, 48, 48, 48, 48, 48, 48, 48, 48, 48] }, .string { data := #[48] }, .string { data := #[49, 47, 49, 48, 50, 52] }] 29) = x ∧ Q v3 x ∧ Sx x v3.heap.size 29 textsL := ⟨_, rfl, (Q.refl _).alloc _, Sx.new v3 29 textsL⟩
              obtain ⟨wG, hWG, hqG, hG⟩ : ∃ x, wE.alloc (.cells #[.string { data := #[52, 46, 55, 107] }, .string { data := #[49, 47, 51] }, .string { data := #[45, 49, 48, 48, 110] }, .string { data := #[49, 107] }, .string { data := #[57, 57, 57] }, .string { data := #[48, 46, 53, 102] }, .string { data := #[49, 48, 48, 48, 48, 48, 48, 84] }, .string { data := #[48] }, .string { data := #[57, 55, 54, 46, 53, 54, 50, 53, 117] }] 9) = x ∧ Q wE x ∧ Sx x wE.heap.size 9 shownL := ⟨_, rfl, (Q.refl _).alloc _, Sx.new wE 9 shownL⟩
              go_wp2_with fail
              clear hWE hWG h1
              have hE2 := hE.q hqG
              have hG8 := (hG7.trans hqE).trans hqG
              go_loopw [14] (fun iv w1 => ∃ i : Nat, iv = .int .i64 (i : Int) ∧ i ≤ 9 ∧ Q wG w1) (fun iv _ => 9 - (intOf iv).toNat)
              case atStart => exact ⟨0, rfl, by omega, Q.refl _⟩
              case round =>
                obtain ⟨i, rfl, hi, hqr⟩ := hrel
                have hGr := hG8.trans hqr
                by_cases hp : i < 9
                · have h1 : (i : Int) < 9 := by omega
                  have h0 : (0 : Int) ≤ (i : Int) := by omega
                  have h2 : (i : Int).toNat = i := rfl
                  have hb9 := texts_all i hp
                  obtain ⟨e1, e2, e3⟩ := hb9
                  have E1 := Lib.hid e1; have E2 := Lib.hid e2; have E3 := Lib.hid e3; clear e1 e2 e3
                  have hE3 := hE2.q hqr
                  have hS3 := hG.q hqr
                  have hG3 := hGr
                  generalize wr = w3 at *
                  clear hGr
                  go_upto_region 27 with fail
                  obtain ⟨x9, Hx9⟩ : ∃ x : Rat, Hid (x = (parseS (textsE i : ByteArray).data.toList).2) := ⟨_, Lib.hid rfl⟩
                  have Z1 : Hid (sz (x9) ≤ 2000) := Lib.hid (by rw [Hx9.out]; exact parse_sz' _)
                  have hAt3 : At0 w3 [{ al := some 8, g := 0, t := 25, ck := [.b, .s, .s], row := .agg #[.bool false, .slice none 0 0, .slice none 0 0], st := 9, src := 6 }] [] w3 := At0.of (Q.refl _) ⟨fun h => (by cases h), trivial⟩ (by simp [Apart0]) trivial
                  refine text_cells (F := ?F4) w3 ([.eq (.slice (some ⟨v3.heap.size, 0, none⟩) 9 9), .eq (.int .i64 ((i : Int))), .eq (.pointer (some ⟨v3.heap.size, i, none⟩)), .eq (.string ((textsE i))), .gen (pT2 (pNum (x9)) (pEq (.int .i64 (0)))), .gen (pT2 (pNum (x9)) (pEq (.int .i64 (0)))), .gen (pNum (x9)), .eq (.int .i64 (0)), .any, .any, .eq (.int .i64 (0))] : List Vs) _ _ (by kernel_rfl) hAt3 ?hF4 ?st4 ?en4
                  case hF4 =>
                    intro vals
                    simp only [Ja.fillL, Act.put, List.setIfInBounds_toArray, List.set_cons_zero, List.set_cons_succ, Nat.reduceAdd]
                    exact rfl
                  case st4 =>
                    clear hAt3
                    intro hctx
                    refine JC.o hctx ?_ ?_
                    · intro L vals W hL hJ hd K hK
                      go_simp
                      exact hK.out (.slice (some ⟨v3.heap.size, 0, none⟩) 9 9) _ _ (by kernel_rfl) rfl (Q.refl _)
                    refine JC.o hctx ?_ ?_
                    · intro L vals W hL hJ hd K hK
                      go_simp
                      exact hK.out (.int .i64 ((i : Int))) _ _ (by kernel_rfl) rfl (Q.refl _)
                    refine JC.o hctx ?_ ?_
                    · intro L vals W hL hJ hd K hK
                      have d0 : vals 0 = .slice (some ⟨v3.heap.size, 0, none⟩) 9 9 := hd 0 (by kernel_rfl)
                      generalize vals 0 = u0 at d0 hK ⊢
                      subst d0
                      have d1 : vals 1 = .int .i64 ((i : Int)) := hd 1 (by kernel_rfl)
                      generalize vals 1 = u1 at d1 hK ⊢
                      subst d1
                      go_simp
                      exact hK.out (.pointer (some ⟨v3.heap.size, i, none⟩)) _ _ (by kernel_rfl) rfl (Q.refl _)
                    refine JC.o hctx ?_ ?_
                    · intro L vals W hL hJ hd K hK
                      have hN := hJ.q
                      have d2 : vals 2 = .pointer (some ⟨v3.heap.size, i, none⟩) := hd 2 (by kernel_rfl)
                      generalize vals 2 = u2 at d2 hK ⊢
                      subst d2
                      have z0 : W.cell? ⟨v3.heap.size, i, none⟩ = some (.string ((textsE i))) := ((hE3.q hN).cell (by exact hp))
                      go_simp
                      exact hK.out (.string ((textsE i))) _ _ (by kernel_rfl) rfl (Q.refl _)
                    refine JC.o hctx ?_ ?_
                    · intro L vals W hL hJ hd K hK
                      have hN := hJ.q
                      have hQ := hG3.trans hN
                      have d3 : vals 3 = .string ((textsE i)) := hd 3 (by kernel_rfl)
                      generalize vals 3 = u3 at d3 hK ⊢
                      subst d3
                      go_simp
                      (with_reducible refine (q_Parse (textsE i) W (hT.q hQ) (by have := E2.out; omega)).mono ?_)
                      rintro e W9 ⟨r, rfl, hr, hq9⟩
                      exact hK.out (.tuple #[r, .int .i64 (parseS (textsE i).data.toList).1]) W9 _ (by kernel_rfl) ⟨_, _, rfl, (by have h7 := hr; rw [← Hx9.out] at h7; exact h7), congrArg (Value.int .i64) E1.out⟩ hq9
                    refine JC.o hctx ?_ ?_
                    · intro L vals W hL hJ hd K hK
                      have d4 : (pT2 (pNum (x9)) (pEq (.int .i64 (0)))).p (vals 4) W := hd 4 (by kernel_rfl)
                      go_simp
                      exact hK.out (vals 4) _ _ (by kernel_rfl) d4 (Q.refl _)
                    refine JC.o hctx ?_ ?_
                    · intro L vals W hL hJ hd K hK
                      have d5 : (pT2 (pNum (x9)) (pEq (.int .i64 (0)))).p (vals 5) W := hd 5 (by kernel_rfl)
                      generalize vals 5 = u5 at d5 hK ⊢
                      obtain ⟨e0, e1, rfl, he0, he1⟩ := d5
                      go_simp
                      exact hK.out (e0) _ _ (by kernel_rfl) he0 (Q.refl _)
                    refine JC.o hctx ?_ ?_
                    · intro L vals W hL hJ hd K hK
                      have d5 : (pT2 (pNum (x9)) (pEq (.int .i64 (0)))).p (vals 5) W := hd 5 (by kernel_rfl)
                      generalize vals 5 = u5 at d5 hK ⊢
                      obtain ⟨e0, e1, rfl, he0, he1⟩ := d5
                      obtain rfl : e1 = .int .i64 (0) := he1
                      go_simp
                      exact hK.out (.int .i64 (0)) _ _ (by kernel_rfl) rfl (Q.refl _)
                    refine Ja.Steps.cons (JC.alloc (n := 0) (cells := [.bool false, .slice none 0 0, .slice none 0 0].toArray) (t := 25) hctx (by kernel_rfl) (by rfl) (by kernel_rfl) (by rfl) (by rfl) (by kernel_rfl) (by rfl) (fun W => NbV.mk (t := 25) (ck := [.b, .s, .s]) (row := [.bool false, .slice none 0 0, .slice none 0 0]) ⟨⟨_, rfl⟩, ⟨_, _, _, rfl⟩, ⟨_, _, _, rfl⟩, trivial⟩ (Bx.new W _ _)) ?_) ?_
                    · intro vals W K hK
                      go_simp
                      exact hK.out _ (by kernel_rfl)
                    refine Ja.Steps.cons (JC.store (n := 0) hctx (by kernel_rfl) (by rfl) (by kernel_rfl) (by rfl) (show (25 : TypeId) ≠ 2 by decide) (by rfl) (by kernel_rfl) (by rfl) (by kernel_rfl) ?_) ?_
                    · intro L vals W g old hJ hp ho hs K hK
                      have hs9 : Nq W (vals 6) (x9) := hs
                      have hp9 : vals 8 = .pointer (some ⟨g, 0, none⟩) := hp
                      dsimp only at hK
                      generalize vals 8 = ua at hp9 hK ⊢
                      subst hp9
                      generalize vals 6 = uj at hs9 hK ⊢
                      obtain ⟨se0, Ae1, ke1, ce1, Ae2, ke2, ce2, rfl, -⟩ := Nq.form hs9
                      obtain ⟨rowo, ho1, hso, hb⟩ := ho
                      have fz := hb.frozen
                      have hox := NbV.ex (⟨rowo, rfl, hso, hb⟩ : NbV W (g) 25 [.b, .s, .s] _)
                      clear hb hso ho1
                      obtain ⟨so0, Ao1, ko1, co1, Ao2, ko2, co2, -, hb⟩ := hox
                      have r0 := hb.cell 0 rfl
                      have r1 := hb.cell 1 rfl
                      have r2 := hb.cell 2 rfl
                      clear hb
                      go_simp
                      exact hK.out undef _ _ (by kernel_rfl) ⟨_, rfl, ⟨⟨_, rfl⟩, ⟨_, _, _, rfl⟩, ⟨_, _, _, rfl⟩, trivial⟩, rfl⟩
                    refine JC.o hctx ?_ ?_
                    · intro L vals W hL hJ hd K hK
                      have d7 : vals 7 = .int .i64 (0) := hd 7 (by kernel_rfl)
                      generalize vals 7 = u7 at d7 hK ⊢
                      subst d7
                      go_simp
                      exact hK.out (.int .i64 (0)) _ _ (by kernel_rfl) rfl (Q.refl _)
                    exact Ja.Steps.nil
                  intro L vals w4 hall hJ
                  clear hAt3
                  have hq4 := hJ.q
                  have hG4 := hG3.trans hq4
                  have hE4 := hE3.q hq4
                  have hS4 := hS3.q hq4
                  clear hG3 hE3 hS3
                  obtain ⟨gZ, eZ, geZ, qZ⟩ := hJ.fresh 0 rfl rfl (hall 8 (by decide)) (hall 9 (by decide))
                  have nZ4 : Nq w4 (vals 6) (x9) := hJ.s 6 (hall 6 (by decide))
                  have qxZ := NbV.ex qZ
                  obtain ⟨sZ0, AZ1, kZ1, cZ1, AZ2, kZ2, cZ2, yZ, hZ4⟩ := qxZ
                  change Bx w4 (gZ) 25 [.bool sZ0, .slice AZ1 kZ1 cZ1, .slice AZ2 kZ2 cZ2] at hZ4
                  try dsimp only at yZ
                  rw [yZ] at nZ4
                  clear yZ qZ
                  rw [eZ]
                  clear eZ
                  have f16 : vals 10 = .int .i64 (0) := hJ.s 10 (hall 10 (by decide))
                  rw [f16]
                  clear f16
                  clear hall hJ
                  go_upto_region 28 with fail
                  have hq94 := hq4
                  have B2 : Hid (2000 * (sz (x9)) + 500000 ≤ LIM) := Lib.hid (by have h0 := Z1.out; rw [LIM_eq]; omega)
                  have hAt4 : At0 w4 [] [] w4 := At0.of (Q.refl _) trivial (by simp [Apart0]) trivial
                  refine region_cells (F := ?F5) w4 ([.gen (pNum (x9)), .eq (.string ((shownE i))), .eq (.slice (some ⟨wE.heap.size, 0, none⟩) 9 9), .eq (.int .i64 ((i : Int))), .eq (.pointer (some ⟨wE.heap.size, i, none⟩)), .eq (.string ((shownE i))), .eq (.bool false)] : List Vs) _ _ (by kernel_rfl) (by kernel_rfl) hAt4 ?hF5 ?st5 ?en5
                  case hF5 =>
                    intro vals
                    simp only [Ja.fillL, Act.put, List.setIfInBounds_toArray, List.set_cons_zero, List.set_cons_succ, Nat.reduceAdd]
                    exact rfl
                  case st5 =>
                    clear hAt4
                    intro hctx
                    refine JC.o hctx ?_ ?_
                    · intro L vals W hL hJ hd K hK
                      have hN := hJ.q
                      have zb := hZ4.q hN
                      have z0 : W.cell? ⟨gZ, 0, none⟩ = some (.bool sZ0) := zb.cell 0 rfl
                      have z1 : W.cell? ⟨gZ, 1, none⟩ = some (.slice AZ1 kZ1 cZ1) := zb.cell 1 rfl
                      have z2 : W.cell? ⟨gZ, 2, none⟩ = some (.slice AZ2 kZ2 cZ2) := zb.cell 2 rfl
                      clear zb
                      go_simp
                      exact hK.out (.agg #[.bool sZ0, .slice AZ1 kZ1 cZ1, .slice AZ2 kZ2 cZ2]) _ _ (by kernel_rfl) ((pNum (x9)).q nZ4 hN) (Q.refl _)
                    refine JC.o hctx ?_ ?_
                    · intro L vals W hL hJ hd K hK
                      have hN := hJ.q
                      have hQ := hG4.trans hN
                      have d0 : Nq W (vals 0) (x9) := hd 0 (by kernel_rfl)
                      go_simp
                      (with_reducible refine (q_Show _ (x9) W (hT.q hQ) (hPx.q hQ) d0 B2.out).mono ?_)
                      rintro e W9 ⟨t, rfl, ht, hq9⟩
                      exact hK.out (.string t) W9 _ (by kernel_rfl) (congrArg Value.string ((str_of ht).trans (by rw [show showQ x9 = (shownE i).data.toList from by rw [Hx9.out]; exact E3.out]; exact ofL_list _))) hq9
                    refine JC.o hctx ?_ ?_
                    · intro L vals W hL hJ hd K hK
                      go_simp
                      exact hK.out (.slice (some ⟨wE.heap.size, 0, none⟩) 9 9) _ _ (by kernel_rfl) rfl (Q.refl _)
                    refine JC.o hctx ?_ ?_
                    · intro L vals W hL hJ hd K hK
                      go_simp
                      exact hK.out (.int .i64 ((i : Int))) _ _ (by kernel_rfl) rfl (Q.refl _)
                    refine JC.o hctx ?_ ?_
                    · intro L vals W hL hJ hd K hK
                      have d2 : vals 2 = .slice (some ⟨wE.heap.size, 0, none⟩) 9 9 := hd 2 (by kernel_rfl)
                      generalize vals 2 = u2 at d2 hK ⊢
                      subst d2
                      have d3 : vals 3 = .int .i64 ((i : Int)) := hd 3 (by kernel_rfl)
                      generalize vals 3 = u3 at d3 hK ⊢
                      subst d3
                      go_simp
                      exact hK.out (.pointer (some ⟨wE.heap.size, i, none⟩)) _ _ (by kernel_rfl) rfl (Q.refl _)
                    refine JC.o hctx ?_ ?_
                    · intro L vals W hL hJ hd K hK
                      have hN := hJ.q
                      have d4 : vals 4 = .pointer (some ⟨wE.heap.size, i, none⟩) := hd 4 (by kernel_rfl)
                      generalize vals 4 = u4 at d4 hK ⊢
                      subst d4
                      have z0 : W.cell? ⟨wE.heap.size, i, none⟩ = some (.string ((shownE i))) := ((hS4.q hN).cell (by exact hp))
                      go_simp
                      exact hK.out (.string ((shownE i))) _ _ (by kernel_rfl) rfl (Q.refl _)
                    refine JC.o hctx ?_ ?_
                    · intro L vals W hL hJ hd K hK
                      have d1 : vals 1 = .string ((shownE i)) := hd 1 (by kernel_rfl)
                      generalize vals 1 = u1 at d1 hK ⊢
                      subst d1
                      have d5 : vals 5 = .string ((shownE i)) := hd 5 (by kernel_rfl)
                      generalize vals 5 = u5 at d5 hK ⊢
                      subst d5
                      go_simp
                      exact hK.out (.bool false) _ _ (by kernel_rfl) rfl (Q.refl _)
                    exact Ja.Steps.nil
                  intro L vals w5 hall hJ
                  clear hAt4
                  have hq5 := hJ.q
                  have hG5 := hG4.trans hq5
                  have hE5 := hE4.q hq5
                  have hS5 := hS4.q hq5
                  have hZ5 := hZ4.q hq5
                  have nZ5 : Nq w5 (.agg #[.bool sZ0, .slice AZ1 kZ1 cZ1, .slice AZ2 kZ2 cZ2]) (x9) := (pNum (x9)).q nZ4 hq5
                  clear hG4 hE4 hS4 hZ4 nZ4
                  have f101 : vals 6 = .bool false := hJ.s 6 (hall 6 (by decide))
                  rw [f101]
                  clear f101
                  clear hall hJ
                  go_wp2_with fail
                  exact ⟨⟨i + 1, rfl, by omega, hqr.trans (hq94.trans hq5)⟩, by simp [intOf]; omega⟩
                · have h1 : ¬ (i : Int) < 9 := by omega
                  generalize wr = w0 at *
                  have hG0 := hGr; clear hGr hqr hi hp
                  clear hE hE2 hG hG7 hG8 hqE hqG
                  obtain ⟨x1, Hx1⟩ : ∃ x : Rat, Hid (x = 1/3) := ⟨_, Lib.hid rfl⟩
                  have Z1 : Hid (sz (x1) ≤ 100) := Lib.hid (by rw [Hx1.out]; decide +kernel)
                  obtain ⟨x2, Hx2⟩ : ∃ x : Rat, Hid (x = -6) := ⟨_, Lib.hid rfl⟩
                  have Z2 : Hid (sz (x2) ≤ 100) := Lib.hid (by rw [Hx2.out]; decide +kernel)
                  obtain ⟨x3, Hx3⟩ : ∃ x : Rat, Hid (x = 10) := ⟨_, Lib.hid rfl⟩
                  have Z3 : Hid (sz (x3) ≤ 100) := Lib.hid (by rw [Hx3.out]; decide +kernel)
                  obtain ⟨x4, Hx4⟩ : ∃ x : Rat, Hid (x = 7) := ⟨_, Lib.hid rfl⟩
                  have Z4 : Hid (sz (x4) ≤ 100) := Lib.hid (by rw [Hx4.out]; decide +kernel)
                  go_upto_region 30 with fail
                  have hAt0 : At0 w0 [{ al := some 4, g := 0, t := 25, ck := [.b, .s, .s], row := .agg #[.bool false, .slice none 0 0, .slice none 0 0], st := 5, src := 2 }] [] w0 := At0.of (Q.refl _) ⟨fun h => (by cases h), trivial⟩ (by simp [Apart0]) trivial
                  refine text_cells (F := ?F6) w0 ([.gen (pT2 (pNum (x1)) (pEq (.int .i64 (0)))), .gen (pT2 (pNum (x1)) (pEq (.int .i64 (0)))), .gen (pNum (x1)), .eq (.int .i64 (0)), .any, .any, .eq (.int .i64 (0))] : List Vs) _ _ (by kernel_rfl) hAt0 ?hF6 ?st6 ?en6
                  case hF6 =>
                    intro vals
                    simp only [Ja.fillL, Act.put, List.setIfInBounds_toArray, List.set_cons_zero, List.set_cons_succ, Nat.reduceAdd]
                    exact rfl
                  case st6 =>
                    clear hAt0
                    intro hctx
                    refine JC.o hctx ?_ ?_
                    · intro L vals W hL hJ hd K hK
                      have hN := hJ.q
                      have hQ := hG0.trans hN
                      go_simp
                      (with_reducible refine (q_Ratio (1) (3) W (hT.q hQ) (by decide) (by decide) (by decide) (by decide)).mono ?_)
                      rintro e W9 ⟨r, rfl, hr, hq9⟩
                      exact hK.out (.tuple #[r, .int .i64 (divR ((1 : Int) : Rat) ((3 : Int) : Rat)).1]) W9 _ (by kernel_rfl) ⟨_, _, rfl, (by have h7 := hr; rw [show (divR ((1 : Int) : Rat) ((3 : Int) : Rat)).2 = x1 from by rw [Hx1.out]; decide +kernel] at h7; exact h7), congrArg (Value.int .i64) (by decide +kernel)⟩ hq9
                    refine JC.o hctx ?_ ?_
                    · intro L vals W hL hJ hd K hK
                      have d0 : (pT2 (pNum (x1)) (pEq (.int .i64 (0)))).p (vals 0) W := hd 0 (by kernel_rfl)
                      go_simp
                      exact hK.out (vals 0) _ _ (by kernel_rfl) d0 (Q.refl _)
                    refine JC.o hctx ?_ ?_
                    · intro L vals W hL hJ hd K hK
                      have d1 : (pT2 (pNum (x1)) (pEq (.int .i64 (0)))).p (vals 1) W := hd 1 (by kernel_rfl)
                      generalize vals 1 = u1 at d1 hK ⊢
                      obtain ⟨e0, e1, rfl, he0, he1⟩ := d1
                      go_simp
                      exact hK.out (e0) _ _ (by kernel_rfl) he0 (Q.refl _)
                    refine JC.o hctx ?_ ?_
                    · intro L vals W hL hJ hd K hK
                      have d1 : (pT2 (pNum (x1)) (pEq (.int .i64 (0)))).p (vals 1) W := hd 1 (by kernel_rfl)
                      generalize vals 1 = u1 at d1 hK ⊢
                      obtain ⟨e0, e1, rfl, he0, he1⟩ := d1
                      obtain rfl : e1 = .int .i64 (0) := he1
                      go_simp
                      exact hK.out (.int .i64 (0)) _ _ (by kernel_rfl) rfl (Q.refl _)
                    refine Ja.Steps.cons (JC.alloc (n := 0) (cells := [.bool false, .slice none 0 0, .slice none 0 0].toArray) (t := 25) hctx (by kernel_rfl) (by rfl) (by kernel_rfl) (by rfl) (by rfl) (by kernel_rfl) (by rfl) (fun W => NbV.mk (t := 25) (ck := [.b, .s, .s]) (row := [.bool false, .slice none 0 0, .slice none 0 0]) ⟨⟨_, rfl⟩, ⟨_, _, _, rfl⟩, ⟨_, _, _, rfl⟩, trivial⟩ (Bx.new W _ _)) ?_) ?_
                    · intro vals W K hK
                      go_simp
                      exact hK.out _ (by kernel_rfl)
                    refine Ja.Steps.cons (JC.store (n := 0) hctx (by kernel_rfl) (by rfl) (by kernel_rfl) (by rfl) (show (25 : TypeId) ≠ 2 by decide) (by rfl) (by kernel_rfl) (by rfl) (by kernel_rfl) ?_) ?_
                    · intro L vals W g old hJ hp ho hs K hK
                      have hs9 : Nq W (vals 2) (x1) := hs
                      have hp9 : vals 4 = .pointer (some ⟨g, 0, none⟩) := hp
                      dsimp only at hK
                      generalize vals 4 = ua at hp9 hK ⊢
                      subst hp9
                      generalize vals 2 = uj at hs9 hK ⊢
                      obtain ⟨se0, Ae1, ke1, ce1, Ae2, ke2, ce2, rfl, -⟩ := Nq.form hs9
                      obtain ⟨rowo, ho1, hso, hb⟩ := ho
                      have fz := hb.frozen
                      have hox := NbV.ex (⟨rowo, rfl, hso, hb⟩ : NbV W (g) 25 [.b, .s, .s] _)
                      clear hb hso ho1
                      obtain ⟨so0, Ao1, ko1, co1, Ao2, ko2, co2, -, hb⟩ := hox
                      have r0 := hb.cell 0 rfl
                      have r1 := hb.cell 1 rfl
                      have r2 := hb.cell 2 rfl
                      clear hb
                      go_simp
                      exact hK.out undef _ _ (by kernel_rfl) ⟨_, rfl, ⟨⟨_, rfl⟩, ⟨_, _, _, rfl⟩, ⟨_, _, _, rfl⟩, trivial⟩, rfl⟩
                    refine JC.o hctx ?_ ?_
                    · intro L vals W hL hJ hd K hK
                      have d3 : vals 3 = .int .i64 (0) := hd 3 (by kernel_rfl)
                      generalize vals 3 = u3 at d3 hK ⊢
                      subst d3
                      go_simp
                      exact hK.out (.int .i64 (0)) _ _ (by kernel_rfl) rfl (Q.refl _)
                    exact Ja.Steps.nil
                  intro L vals w1 hall hJ
                  clear hAt0
                  have hq1 := hJ.q
                  have hG1 := hG0.trans hq1
                  clear hG0 
                  obtain ⟨gT, eT, geT, qT⟩ := hJ.fresh 0 rfl rfl (hall 4 (by decide)) (hall 5 (by decide))
                  have nT1 : Nq w1 (vals 2) (x1) := hJ.s 2 (hall 2 (by decide))
                  have qxT := NbV.ex qT
                  obtain ⟨sT0, AT1, kT1, cT1, AT2, kT2, cT2, yT, hT1⟩ := qxT
                  change Bx w1 (gT) 25 [.bool sT0, .slice AT1 kT1 cT1, .slice AT2 kT2 cT2] at hT1
                  try dsimp only at yT
                  rw [yT] at nT1
                  clear yT qT
                  rw [eT]
                  clear eT
                  clear hall hJ
                  go_upto_region 31 with fail
                  have Z5 : Hid (sz (((-1 : Int) : Rat)) ≤ 2) := Lib.hid (by decide +kernel)
                  have Z6 : Hid (sz (((2 : Int) : Rat)) ≤ 2) := Lib.hid (by decide +kernel)
                  have Z7 : Hid (sz (((-3 : Int) : Rat)) ≤ 2) := Lib.hid (by decide +kernel)
                  have Z8 : Hid (sz (((5 : Int) : Rat)) ≤ 2) := Lib.hid (by decide +kernel)
                  have hAt1 : At0 w1 [{ al := some 7, g := 0, t := 70, ck := [.b, .s, .s, .b, .s, .s], row := .agg #[.bool false, .slice none 0 0, .slice none 0 0, .bool false, .slice none 0 0, .slice none 0 0], st := 8, src := 6 }] [] w1 := At0.of (Q.refl _) ⟨fun h => (by cases h), trivial⟩ (by simp [Apart0]) trivial
                  refine text_cells (F := ?F7) w1 ([.gen (pNum (((-1 : Int) : Rat))), .gen (pNum (((2 : Int) : Rat))), .gen (pSpan (((-1 : Int) : Rat)) (((2 : Int) : Rat))), .gen (pNum (((-3 : Int) : Rat))), .gen (pNum (((5 : Int) : Rat))), .gen (pSpan (((-3 : Int) : Rat)) (((5 : Int) : Rat))), .gen (pSpan (x2) (x3)), .any, .any] : List Vs) _ _ (by kernel_rfl) hAt1 ?hF7 ?st7 ?en7
                  case hF7 =>
                    intro vals
                    simp only [Ja.fillL, Act.put, List.setIfInBounds_toArray, List.set_cons_zero, List.set_cons_succ, Nat.reduceAdd]
                    exact rfl
                  case st7 =>
                    clear hAt1
                    intro hctx
                    refine JC.o hctx ?_ ?_
                    · intro L vals W hL hJ hd K hK
                      go_simp
                      (with_reducible refine (q_Int (-1) W (by decide) (by decide)).mono ?_)
                      rintro e W9 ⟨r, rfl, hr, hq9⟩
                      exact hK.out r W9 _ (by kernel_rfl) hr hq9
                    refine JC.o hctx ?_ ?_
                    · intro L vals W hL hJ hd K hK
                      go_simp
                      (with_reducible refine (q_Int (2) W (by decide) (by decide)).mono ?_)
                      rintro e W9 ⟨r, rfl, hr, hq9⟩
                      exact hK.out r W9 _ (by kernel_rfl) hr hq9
                    refine JC.o hctx ?_ ?_
                    · intro L vals W hL hJ hd K hK
                      have d0 : Nq W (vals 0) (((-1 : Int) : Rat)) := hd 0 (by kernel_rfl)
                      have d1 : Nq W (vals 1) (((2 : Int) : Rat)) := hd 1 (by kernel_rfl)
                      generalize vals 0 = u0 at d0 hK ⊢
                      obtain ⟨se0_0, Ae0_1, ke0_1, ce0_1, Ae0_2, ke0_2, ce0_2, rfl, -⟩ := Nq.form d0
                      generalize vals 1 = u1 at d1 hK ⊢
                      obtain ⟨se1_0, Ae1_1, ke1_1, ce1_1, Ae1_2, ke1_2, ce1_2, rfl, -⟩ := Nq.form d1
                      go_simp
                      exact hK.out (.agg #[.bool se0_0, .slice Ae0_1 ke0_1 ce0_1, .slice Ae0_2 ke0_2 ce0_2, .bool se1_0, .slice Ae1_1 ke1_1 ce1_1, .slice Ae1_2 ke1_2 ce1_2]) _ _ (by kernel_rfl) ⟨_, _, _, _, _, _, _, _, _, _, _, _, _, _, rfl, d0, d1⟩ (Q.refl _)
                    refine JC.o hctx ?_ ?_
                    · intro L vals W hL hJ hd K hK
                      go_simp
                      (with_reducible refine (q_Int (-3) W (by decide) (by decide)).mono ?_)
                      rintro e W9 ⟨r, rfl, hr, hq9⟩
                      exact hK.out r W9 _ (by kernel_rfl) hr hq9
                    refine JC.o hctx ?_ ?_
                    · intro L vals W hL hJ hd K hK
                      go_simp
                      (with_reducible refine (q_Int (5) W (by decide) (by decide)).mono ?_)
                      rintro e W9 ⟨r, rfl, hr, hq9⟩
                      exact hK.out r W9 _ (by kernel_rfl) hr hq9
                    refine JC.o hctx ?_ ?_
                    · intro L vals W hL hJ hd K hK
                      have d3 : Nq W (vals 3) (((-3 : Int) : Rat)) := hd 3 (by kernel_rfl)
                      have d4 : Nq W (vals 4) (((5 : Int) : Rat)) := hd 4 (by kernel_rfl)
                      generalize vals 3 = u3 at d3 hK ⊢
                      obtain ⟨se0_0, Ae0_1, ke0_1, ce0_1, Ae0_2, ke0_2, ce0_2, rfl, -⟩ := Nq.form d3
                      generalize vals 4 = u4 at d4 hK ⊢
                      obtain ⟨se1_0, Ae1_1, ke1_1, ce1_1, Ae1_2, ke1_2, ce1_2, rfl, -⟩ := Nq.form d4
                      go_simp
                      exact hK.out (.agg #[.bool se0_0, .slice Ae0_1 ke0_1 ce0_1, .slice Ae0_2 ke0_2 ce0_2, .bool se1_0, .slice Ae1_1 ke1_1 ce1_1, .slice Ae1_2 ke1_2 ce1_2]) _ _ (by kernel_rfl) ⟨_, _, _, _, _, _, _, _, _, _, _, _, _, _, rfl, d3, d4⟩ (Q.refl _)
                    refine JC.o hctx ?_ ?_
                    · intro L vals W hL hJ hd K hK
                      have hN := hJ.q
                      have hQ := hG1.trans hN
                      have d2 : Ns W (vals 2) (((-1 : Int) : Rat)) (((2 : Int) : Rat)) := hd 2 (by kernel_rfl)
                      have d5 : Ns W (vals 5) (((-3 : Int) : Rat)) (((5 : Int) : Rat)) := hd 5 (by kernel_rfl)
                      go_simp
                      (with_reducible refine (q_SpanMul _ _ (((-1 : Int) : Rat)) (((2 : Int) : Rat)) (((-3 : Int) : Rat)) (((5 : Int) : Rat)) W (hT.q hQ) d2 d5 (by have h0 := Z5.out; have h1 := Z6.out; have h2 := Z7.out; have h3 := Z8.out; omega)).mono ?_)
                      rintro e W9 ⟨r, rfl, hr, hq9⟩
                      exact hK.out r W9 _ (by kernel_rfl) (by have h7 := hr; rw [show (pmin (rmin (((-1 : Int) : Rat)) (((2 : Int) : Rat))) (rmax (((-1 : Int) : Rat)) (((2 : Int) : Rat))) (rmin (((-3 : Int) : Rat)) (((5 : Int) : Rat))) (rmax (((-3 : Int) : Rat)) (((5 : Int) : Rat))) : Rat) = x2 from by rw [Hx2.out]; decide +kernel, show (pmax (rmin (((-1 : Int) : Rat)) (((2 : Int) : Rat))) (rmax (((-1 : Int) : Rat)) (((2 : Int) : Rat))) (rmin (((-3 : Int) : Rat)) (((5 : Int) : Rat))) (rmax (((-3 : Int) : Rat)) (((5 : Int) : Rat))) : Rat) = x3 from by rw [Hx3.out]; decide +kernel] at h7; exact h7) hq9
                    refine Ja.Steps.cons (JC.alloc (n := 0) (cells := [.bool false, .slice none 0 0, .slice none 0 0, .bool false, .slice none 0 0, .slice none 0 0].toArray) (t := 70) hctx (by kernel_rfl) (by rfl) (by kernel_rfl) (by rfl) (by rfl) (by kernel_rfl) (by rfl) (fun W => NbV.mk (t := 70) (ck := [.b, .s, .s, .b, .s, .s]) (row := [.bool false, .slice none 0 0, .slice none 0 0, .bool false, .slice none 0 0, .slice none 0 0]) ⟨⟨_, rfl⟩, ⟨_, _, _, rfl⟩, ⟨_, _, _, rfl⟩, ⟨_, rfl⟩, ⟨_, _, _, rfl⟩, ⟨_, _, _, rfl⟩, trivial⟩ (Bx.new W _ _)) ?_) ?_
                    · intro vals W K hK
                      go_simp
                      exact hK.out _ (by kernel_rfl)
                    refine Ja.Steps.cons (JC.store (n := 0) hctx (by kernel_rfl) (by rfl) (by kernel_rfl) (by rfl) (show (70 : TypeId) ≠ 2 by decide) (by rfl) (by kernel_rfl) (by rfl) (by kernel_rfl) ?_) ?_
                    · intro L vals W g old hJ hp ho hs K hK
                      have hs9 : Ns W (vals 6) (x2) (x3) := hs
                      have hp9 : vals 7 = .pointer (some ⟨g, 0, none⟩) := hp
                      dsimp only at hK
                      generalize vals 7 = ua at hp9 hK ⊢
                      subst hp9
                      generalize vals 6 = uj at hs9 hK ⊢
                      obtain ⟨se0, Ae1, ke1, ce1, Ae2, ke2, ce2, se3, Ae4, ke4, ce4, Ae5, ke5, ce5, rfl, -⟩ := (show Ns _ _ _ _ from hs9)
                      obtain ⟨rowo, ho1, hso, hb⟩ := ho
                      have fz := hb.frozen
                      have hox := NbV.ex (⟨rowo, rfl, hso, hb⟩ : NbV W (g) 70 [.b, .s, .s, .b, .s, .s] _)
                      clear hb hso ho1
                      obtain ⟨so0, Ao1, ko1, co1, Ao2, ko2, co2, so3, Ao4, ko4, co4, Ao5, ko5, co5, -, hb⟩ := hox
                      have r0 := hb.cell 0 rfl
                      have r1 := hb.cell 1 rfl
                      have r2 := hb.cell 2 rfl
                      have r3 := hb.cell 3 rfl
                      have r4 := hb.cell 4 rfl
                      have r5 := hb.cell 5 rfl
                      clear hb
                      go_simp
                      exact hK.out undef _ _ (by kernel_rfl) ⟨_, rfl, ⟨⟨_, rfl⟩, ⟨_, _, _, rfl⟩, ⟨_, _, _, rfl⟩, ⟨_, rfl⟩, ⟨_, _, _, rfl⟩, ⟨_, _, _, rfl⟩, trivial⟩, rfl⟩
                    exact Ja.Steps.nil
                  intro L vals w2 hall hJ
                  clear hAt1
                  have hq2 := hJ.q
                  have hG2 := hG1.trans hq2
                  have hT2 := hT1.q hq2
                  have nT2 : Nq w2 (.agg #[.bool sT0, .slice AT1 kT1 cT1, .slice AT2 kT2 cT2]) (x1) := (pNum (x1)).q nT1 hq2
                  clear hG1 hT1 nT1
                  obtain ⟨gU, eU, geU, qU⟩ := hJ.fresh 0 rfl rfl (hall 7 (by decide)) (hall 8 (by decide))
                  have nU2 : Ns w2 (vals 6) (x2) (x3) := hJ.s 6 (hall 6 (by decide))
                  have qxU := NbV.ex qU
                  obtain ⟨sU0, AU1, kU1, cU1, AU2, kU2, cU2, sU3, AU4, kU4, cU4, AU5, kU5, cU5, yU, hU2⟩ := qxU
                  change Bx w2 (gU) 70 [.bool sU0, .slice AU1 kU1 cU1, .slice AU2 kU2 cU2, .bool sU3, .slice AU4 kU4 cU4, .slice AU5 kU5 cU5] at hU2
                  try dsimp only at yU
                  rw [yU] at nU2
                  clear yU qU
                  rw [eU]
                  clear eU
                  clear hall hJ
                  go_upto_region 32 with fail
                  have Z9 : Hid (sz (0) ≤ 2) := Lib.hid (sz_zero)
                  have Z10 : Hid (sz (((1 : Int) : Rat)) ≤ 2) := Lib.hid (by decide +kernel)
                  have Z11 : Hid (sz (((3 : Int) : Rat)) ≤ 2) := Lib.hid (by decide +kernel)
                  have hAt2 : At0 w2 [{ al := some 9, g := 0, t := 70, ck := [.b, .s, .s, .b, .s, .s], row := .agg #[.bool false, .slice none 0 0, .slice none 0 0, .bool false, .slice none 0 0, .slice none 0 0], st := 10, src := 7 }] [] w2 := At0.of (Q.refl _) ⟨fun h => (by cases h), trivial⟩ (by simp [Apart0]) trivial
                  refine text_cells (F := ?F8) w2 ([.gen (pNum (((1 : Int) : Rat))), .gen (pSpan (0) (((1 : Int) : Rat))), .gen (pNum (((3 : Int) : Rat))), .gen (pNum (((2 : Int) : Rat))), .gen (pSpan (((3 : Int) : Rat)) (((2 : Int) : Rat))), .gen (pT2 (pSpan ((meetR (rmin (0) (((1 : Int) : Rat))) (rmax (0) (((1 : Int) : Rat))) (rmin (((3 : Int) : Rat)) (((2 : Int) : Rat))) (rmax (((3 : Int) : Rat)) (((2 : Int) : Rat)))).2.1) ((meetR (rmin (0) (((1 : Int) : Rat))) (rmax (0) (((1 : Int) : Rat))) (rmin (((3 : Int) : Rat)) (((2 : Int) : Rat))) (rmax (((3 : Int) : Rat)) (((2 : Int) : Rat)))).2.2)) (pEq (.bool false))), .gen (pT2 (pSpan ((meetR (rmin (0) (((1 : Int) : Rat))) (rmax (0) (((1 : Int) : Rat))) (rmin (((3 : Int) : Rat)) (((2 : Int) : Rat))) (rmax (((3 : Int) : Rat)) (((2 : Int) : Rat)))).2.1) ((meetR (rmin (0) (((1 : Int) : Rat))) (rmax (0) (((1 : Int) : Rat))) (rmin (((3 : Int) : Rat)) (((2 : Int) : Rat))) (rmax (((3 : Int) : Rat)) (((2 : Int) : Rat)))).2.2)) (pEq (.bool false))), .gen (pSpan ((meetR (rmin (0) (((1 : Int) : Rat))) (rmax (0) (((1 : Int) : Rat))) (rmin (((3 : Int) : Rat)) (((2 : Int) : Rat))) (rmax (((3 : Int) : Rat)) (((2 : Int) : Rat)))).2.1) ((meetR (rmin (0) (((1 : Int) : Rat))) (rmax (0) (((1 : Int) : Rat))) (rmin (((3 : Int) : Rat)) (((2 : Int) : Rat))) (rmax (((3 : Int) : Rat)) (((2 : Int) : Rat)))).2.2)), .eq (.bool false), .any, .any, .eq (.bool false)] : List Vs) _ _ (by kernel_rfl) hAt2 ?hF8 ?st8 ?en8
                  case hF8 =>
                    intro vals
                    simp only [Ja.fillL, Act.put, List.setIfInBounds_toArray, List.set_cons_zero, List.set_cons_succ, Nat.reduceAdd]
                    exact rfl
                  case st8 =>
                    clear hAt2
                    intro hctx
                    refine JC.o hctx ?_ ?_
                    · intro L vals W hL hJ hd K hK
                      go_simp
                      (with_reducible refine (q_Int (1) W (by decide) (by decide)).mono ?_)
                      rintro e W9 ⟨r, rfl, hr, hq9⟩
                      exact hK.out r W9 _ (by kernel_rfl) hr hq9
                    refine JC.o hctx ?_ ?_
                    · intro L vals W hL hJ hd K hK
                      have d0 : Nq W (vals 0) (((1 : Int) : Rat)) := hd 0 (by kernel_rfl)
                      generalize vals 0 = u0 at d0 hK ⊢
                      obtain ⟨se0_0, Ae0_1, ke0_1, ce0_1, Ae0_2, ke0_2, ce0_2, rfl, -⟩ := Nq.form d0
                      go_simp
                      exact hK.out (.agg #[.bool false, .slice none 0 0, .slice none 0 0, .bool se0_0, .slice Ae0_1 ke0_1 ce0_1, .slice Ae0_2 ke0_2 ce0_2]) _ _ (by kernel_rfl) ⟨_, _, _, _, _, _, _, _, _, _, _, _, _, _, rfl, nqNone W, d0⟩ (Q.refl _)
                    refine JC.o hctx ?_ ?_
                    · intro L vals W hL hJ hd K hK
                      go_simp
                      (with_reducible refine (q_Int (3) W (by decide) (by decide)).mono ?_)
                      rintro e W9 ⟨r, rfl, hr, hq9⟩
                      exact hK.out r W9 _ (by kernel_rfl) hr hq9
                    refine JC.o hctx ?_ ?_
                    · intro L vals W hL hJ hd K hK
                      go_simp
                      (with_reducible refine (q_Int (2) W (by decide) (by decide)).mono ?_)
                      rintro e W9 ⟨r, rfl, hr, hq9⟩
                      exact hK.out r W9 _ (by kernel_rfl) hr hq9
                    refine JC.o hctx ?_ ?_
                    · intro L vals W hL hJ hd K hK
                      have d2 : Nq W (vals 2) (((3 : Int) : Rat)) := hd 2 (by kernel_rfl)
                      have d3 : Nq W (vals 3) (((2 : Int) : Rat)) := hd 3 (by kernel_rfl)
                      generalize vals 2 = u2 at d2 hK ⊢
                      obtain ⟨se0_0, Ae0_1, ke0_1, ce0_1, Ae0_2, ke0_2, ce0_2, rfl, -⟩ := Nq.form d2
                      generalize vals 3 = u3 at d3 hK ⊢
                      obtain ⟨se1_0, Ae1_1, ke1_1, ce1_1, Ae1_2, ke1_2, ce1_2, rfl, -⟩ := Nq.form d3
                      go_simp
                      exact hK.out (.agg #[.bool se0_0, .slice Ae0_1 ke0_1 ce0_1, .slice Ae0_2 ke0_2 ce0_2, .bool se1_0, .slice Ae1_1 ke1_1 ce1_1, .slice Ae1_2 ke1_2 ce1_2]) _ _ (by kernel_rfl) ⟨_, _, _, _, _, _, _, _, _, _, _, _, _, _, rfl, d2, d3⟩ (Q.refl _)
                    refine JC.o hctx ?_ ?_
                    · intro L vals W hL hJ hd K hK
                      have hN := hJ.q
                      have hQ := hG2.trans hN
                      have d1 : Ns W (vals 1) (0) (((1 : Int) : Rat)) := hd 1 (by kernel_rfl)
                      have d4 : Ns W (vals 4) (((3 : Int) : Rat)) (((2 : Int) : Rat)) := hd 4 (by kernel_rfl)
                      go_simp
                      (with_reducible refine (q_SpanMeet _ _ (0) (((1 : Int) : Rat)) (((3 : Int) : Rat)) (((2 : Int) : Rat)) W (hT.q hQ) d1 d4 (by have h0 := Z9.out; have h1 := Z10.out; have h2 := Z11.out; have h3 := Z6.out; omega)).mono ?_)
                      rintro e W9 ⟨r, rfl, hr, hq9⟩
                      exact hK.out (.tuple #[r, .bool (meetR (rmin (0) (((1 : Int) : Rat))) (rmax (0) (((1 : Int) : Rat))) (rmin (((3 : Int) : Rat)) (((2 : Int) : Rat))) (rmax (((3 : Int) : Rat)) (((2 : Int) : Rat)))).1]) W9 _ (by kernel_rfl) ⟨_, _, rfl, hr, congrArg Value.bool (by decide +kernel)⟩ hq9
                    refine JC.o hctx ?_ ?_
                    · intro L vals W hL hJ hd K hK
                      have d5 : (pT2 (pSpan ((meetR (rmin (0) (((1 : Int) : Rat))) (rmax (0) (((1 : Int) : Rat))) (rmin (((3 : Int) : Rat)) (((2 : Int) : Rat))) (rmax (((3 : Int) : Rat)) (((2 : Int) : Rat)))).2.1) ((meetR (rmin (0) (((1 : Int) : Rat))) (rmax (0) (((1 : Int) : Rat))) (rmin (((3 : Int) : Rat)) (((2 : Int) : Rat))) (rmax (((3 : Int) : Rat)) (((2 : Int) : Rat)))).2.2)) (pEq (.bool false))).p (vals 5) W := hd 5 (by kernel_rfl)
                      go_simp
                      exact hK.out (vals 5) _ _ (by kernel_rfl) d5 (Q.refl _)
                    refine JC.o hctx ?_ ?_
                    · intro L vals W hL hJ hd K hK
                      have d6 : (pT2 (pSpan ((meetR (rmin (0) (((1 : Int) : Rat))) (rmax (0) (((1 : Int) : Rat))) (rmin (((3 : Int) : Rat)) (((2 : Int) : Rat))) (rmax (((3 : Int) : Rat)) (((2 : Int) : Rat)))).2.1) ((meetR (rmin (0) (((1 : Int) : Rat))) (rmax (0) (((1 : Int) : Rat))) (rmin (((3 : Int) : Rat)) (((2 : Int) : Rat))) (rmax (((3 : Int) : Rat)) (((2 : Int) : Rat)))).2.2)) (pEq (.bool false))).p (vals 6) W := hd 6 (by kernel_rfl)
                      generalize vals 6 = u6 at d6 hK ⊢
                      obtain ⟨e0, e1, rfl, he0, he1⟩ := d6
                      go_simp
                      exact hK.out (e0) _ _ (by kernel_rfl) he0 (Q.refl _)
                    refine JC.o hctx ?_ ?_
                    · intro L vals W hL hJ hd K hK
                      have d6 : (pT2 (pSpan ((meetR (rmin (0) (((1 : Int) : Rat))) (rmax (0) (((1 : Int) : Rat))) (rmin (((3 : Int) : Rat)) (((2 : Int) : Rat))) (rmax (((3 : Int) : Rat)) (((2 : Int) : Rat)))).2.1) ((meetR (rmin (0) (((1 : Int) : Rat))) (rmax (0) (((1 : Int) : Rat))) (rmin (((3 : Int) : Rat)) (((2 : Int) : Rat))) (rmax (((3 : Int) : Rat)) (((2 : Int) : Rat)))).2.2)) (pEq (.bool false))).p (vals 6) W := hd 6 (by kernel_rfl)
                      generalize vals 6 = u6 at d6 hK ⊢
                      obtain ⟨e0, e1, rfl, he0, he1⟩ := d6
                      obtain rfl : e1 = .bool false := he1
                      go_simp
                      exact hK.out (.bool false) _ _ (by kernel_rfl) rfl (Q.refl _)
                    refine Ja.Steps.cons (JC.alloc (n := 0) (cells := [.bool false, .slice none 0 0, .slice none 0 0, .bool false, .slice none 0 0, .slice none 0 0].toArray) (t := 70) hctx (by kernel_rfl) (by rfl) (by kernel_rfl) (by rfl) (by rfl) (by kernel_rfl) (by rfl) (fun W => NbV.mk (t := 70) (ck := [.b, .s, .s, .b, .s, .s]) (row := [.bool false, .slice none 0 0, .slice none 0 0, .bool false, .slice none 0 0, .slice none 0 0]) ⟨⟨_, rfl⟩, ⟨_, _, _, rfl⟩, ⟨_, _, _, rfl⟩, ⟨_, rfl⟩, ⟨_, _, _, rfl⟩, ⟨_, _, _, rfl⟩, trivial⟩ (Bx.new W _ _)) ?_) ?_
                    · intro vals W K hK
                      go_simp
                      exact hK.out _ (by kernel_rfl)
                    refine Ja.Steps.cons (JC.store (n := 0) hctx (by kernel_rfl) (by rfl) (by kernel_rfl) (by rfl) (show (70 : TypeId) ≠ 2 by decide) (by rfl) (by kernel_rfl) (by rfl) (by kernel_rfl) ?_) ?_
                    · intro L vals W g old hJ hp ho hs K hK
                      have hs9 : Ns W (vals 7) ((meetR (rmin (0) (((1 : Int) : Rat))) (rmax (0) (((1 : Int) : Rat))) (rmin (((3 : Int) : Rat)) (((2 : Int) : Rat))) (rmax (((3 : Int) : Rat)) (((2 : Int) : Rat)))).2.1) ((meetR (rmin (0) (((1 : Int) : Rat))) (rmax (0) (((1 : Int) : Rat))) (rmin (((3 : Int) : Rat)) (((2 : Int) : Rat))) (rmax (((3 : Int) : Rat)) (((2 : Int) : Rat)))).2.2) := hs
                      have hp9 : vals 9 = .pointer (some ⟨g, 0, none⟩) := hp
                      dsimp only at hK
                      generalize vals 9 = ua at hp9 hK ⊢
                      subst hp9
                      generalize vals 7 = uj at hs9 hK ⊢
                      obtain ⟨se0, Ae1, ke1, ce1, Ae2, ke2, ce2, se3, Ae4, ke4, ce4, Ae5, ke5, ce5, rfl, -⟩ := (show Ns _ _ _ _ from hs9)
                      obtain ⟨rowo, ho1, hso, hb⟩ := ho
                      have fz := hb.frozen
                      have hox := NbV.ex (⟨rowo, rfl, hso, hb⟩ : NbV W (g) 70 [.b, .s, .s, .b, .s, .s] _)
                      clear hb hso ho1
                      obtain ⟨so0, Ao1, ko1, co1, Ao2, ko2, co2, so3, Ao4, ko4, co4, Ao5, ko5, co5, -, hb⟩ := hox
                      have r0 := hb.cell 0 rfl
                      have r1 := hb.cell 1 rfl
                      have r2 := hb.cell 2 rfl
                      have r3 := hb.cell 3 rfl
                      have r4 := hb.cell 4 rfl
                      have r5 := hb.cell 5 rfl
                      clear hb
                      go_simp
                      exact hK.out undef _ _ (by kernel_rfl) ⟨_, rfl, ⟨⟨_, rfl⟩, ⟨_, _, _, rfl⟩, ⟨_, _, _, rfl⟩, ⟨_, rfl⟩, ⟨_, _, _, rfl⟩, ⟨_, _, _, rfl⟩, trivial⟩, rfl⟩
                    refine JC.o hctx ?_ ?_
                    · intro L vals W hL hJ hd K hK
                      have d8 : vals 8 = .bool false := hd 8 (by kernel_rfl)
                      generalize vals 8 = u8 at d8 hK ⊢
                      subst d8
                      go_simp
                      exact hK.out (.bool false) _ _ (by kernel_rfl) rfl (Q.refl _)
                    exact Ja.Steps.nil
                  intro L vals w3 hall hJ
                  clear hAt2
                  have hq3 := hJ.q
                  have hG3 := hG2.trans hq3
                  have hT3 := hT2.q hq3
                  have nT3 : Nq w3 (.agg #[.bool sT0, .slice AT1 kT1 cT1, .slice AT2 kT2 cT2]) (x1) := (pNum (x1)).q nT2 hq3
                  have hU3 := hU2.q hq3
                  have nU3 : Ns w3 (.agg #[.bool sU0, .slice AU1 kU1 cU1, .slice AU2 kU2 cU2, .bool sU3, .slice AU4 kU4 cU4, .slice AU5 kU5 cU5]) (x2) (x3) := (pSpan (x2) (x3)).q nU2 hq3
                  clear hG2 hT2 hU2 nT2 nU2
                  obtain ⟨gV, eV, geV, qV⟩ := hJ.fresh 0 rfl rfl (hall 9 (by decide)) (hall 10 (by decide))
                  have nV3 : Ns w3 (vals 7) ((meetR (rmin (0) (((1 : Int) : Rat))) (rmax (0) (((1 : Int) : Rat))) (rmin (((3 : Int) : Rat)) (((2 : Int) : Rat))) (rmax (((3 : Int) : Rat)) (((2 : Int) : Rat)))).2.1) ((meetR (rmin (0) (((1 : Int) : Rat))) (rmax (0) (((1 : Int) : Rat))) (rmin (((3 : Int) : Rat)) (((2 : Int) : Rat))) (rmax (((3 : Int) : Rat)) (((2 : Int) : Rat)))).2.2) := hJ.s 7 (hall 7 (by decide))
                  have qxV := NbV.ex qV
                  obtain ⟨sV0, AV1, kV1, cV1, AV2, kV2, cV2, sV3, AV4, kV4, cV4, AV5, kV5, cV5, yV, hV3⟩ := qxV
                  change Bx w3 (gV) 70 [.bool sV0, .slice AV1 kV1 cV1, .slice AV2 kV2 cV2, .bool sV3, .slice AV4 kV4 cV4, .slice AV5 kV5 cV5] at hV3
                  try dsimp only at yV
                  rw [yV] at nV3
                  clear yV qV
                  rw [eV]
                  clear eV
                  have f21 : vals 11 = .bool false := hJ.s 11 (hall 11 (by decide))
                  rw [f21]
                  clear f21
                  clear hall hJ
                  go_upto_region 33 with fail
                  have Z12 : Hid (sz (dn (bitsN 3) x1) ≤ 10406) := Lib.hid (by have h9 := (sz_dn_up (x1) (bitsN_pos 3).1).1; have h8 := (bitsN_pos 3).2; have h0 := Z1.out; omega)
                  have B13 : Hid (2000 * (sz (x1)) + 500000 ≤ LIM) := Lib.hid (by have h0 := Z1.out; rw [LIM_eq]; omega)
                  have Z14 : Hid (sz (((7 : Int) : Rat)) ≤ 2) := Lib.hid (by decide +kernel)
                  have Z15 : Hid (sz (up (bitsN 2) x4) ≤ 10406) := Lib.hid (by have h9 := (sz_dn_up (x4) (bitsN_pos 2).1).2; have h8 := (bitsN_pos 2).2; have h0 := Z4.out; omega)
                  have B16 : Hid (2000 * (sz (x4)) + 500000 ≤ LIM) := Lib.hid (by have h0 := Z4.out; rw [LIM_eq]; omega)
                  have hAt3 : At0 w3 [] [] w3 := At0.of (Q.refl _) trivial (by simp [Apart0]) trivial
                  refine text_cells (F := ?F9) w3 ([.gen (pNum (x1)), .gen (pNum (dn (bitsN 3) x1)), .eq (.string (⟨#[53, 47, 49, 54]⟩)), .eq (.bool true), .eq (.bool true), .gen (pNum (x4)), .gen (pNum (up (bitsN 2) x4)), .eq (.string (⟨#[56]⟩)), .eq (.bool true), .eq (.bool true), .eq (.bool true), .eq (.pointer (some ⟨gU, 0, none⟩)), .gen (pNum (x2)), .eq (.string (⟨#[45, 54]⟩)), .eq (.bool true), .eq (.bool true), .eq (.bool true), .eq (.pointer (some ⟨gU, 3, none⟩)), .gen (pNum (x3)), .eq (.string (⟨#[49, 48]⟩)), .eq (.bool true), .eq (.bool true), .eq (.bool true), .eq (.bool false), .eq (.bool true), .eq (.bool true), .eq (.bool true), .eq (.bool true), .eq (.bool true), .eq (.bool true)] : List Vs) _ _ (by kernel_rfl) hAt3 ?hF9 ?st9 ?en9
                  case hF9 =>
                    intro vals
                    simp only [Ja.fillL, Act.put, List.setIfInBounds_toArray, List.set_cons_zero, List.set_cons_succ, Nat.reduceAdd]
                    exact rfl
                  case st9 =>
                    clear hAt3
                    intro hctx
                    refine JC.o hctx ?_ ?_
                    · intro L vals W hL hJ hd K hK
                      have hN := hJ.q
                      have zb := hT3.q hN
                      have z0 : W.cell? ⟨gT, 0, none⟩ = some (.bool sT0) := zb.cell 0 rfl
                      have z1 : W.cell? ⟨gT, 1, none⟩ = some (.slice AT1 kT1 cT1) := zb.cell 1 rfl
                      have z2 : W.cell? ⟨gT, 2, none⟩ = some (.slice AT2 kT2 cT2) := zb.cell 2 rfl
                      clear zb
                      go_simp
                      exact hK.out (.agg #[.bool sT0, .slice AT1 kT1 cT1, .slice AT2 kT2 cT2]) _ _ (by kernel_rfl) ((pNum (x1)).q nT3 hN) (Q.refl _)
                    refine JC.o hctx ?_ ?_
                    · intro L vals W hL hJ hd K hK
                      have hN := hJ.q
                      have hQ := hG3.trans hN
                      have d0 : Nq W (vals 0) (x1) := hd 0 (by kernel_rfl)
                      go_simp
                      (with_reducible refine (q_Down _ (x1) (3) W (hT.q hQ) d0 B13.out).mono ?_)
                      rintro e W9 ⟨r, rfl, hr, hq9⟩
                      exact hK.out r W9 _ (by kernel_rfl) hr hq9
                    refine JC.o hctx ?_ ?_
                    · intro L vals W hL hJ hd K hK
                      have d1 : Nq W (vals 1) (dn (bitsN 3) x1) := hd 1 (by kernel_rfl)
                      go_simp
                      (with_reducible refine (q_Text _ (dn (bitsN 3) x1) W d1 (by have h0 := Z12.out; omega)).mono ?_)
                      rintro e W9 ⟨t, rfl, ht, hq9⟩
                      exact hK.out (.string t) W9 _ (by kernel_rfl) (congrArg Value.string ((str_of ht).trans (congrArg ofL (show textQ (dn (bitsN 3) x1) = [53, 47, 49, 54] by rw [Hx1.out]; decide +kernel)))) hq9
                    refine JC.o hctx ?_ ?_
                    · intro L vals W hL hJ hd K hK
                      have d2 : vals 2 = .string (⟨#[53, 47, 49, 54]⟩) := hd 2 (by kernel_rfl)
                      generalize vals 2 = u2 at d2 hK ⊢
                      subst d2
                      go_simp
                      exact hK.out (.bool true) _ _ (by kernel_rfl) rfl (Q.refl _)
                    refine JC.o hctx ?_ ?_
                    · intro L vals W hL hJ hd K hK
                      have d3 : vals 3 = .bool true := hd 3 (by kernel_rfl)
                      generalize vals 3 = u3 at d3 hK ⊢
                      subst d3
                      go_simp
                      exact hK.out (.bool true) _ _ (by kernel_rfl) rfl (Q.refl _)
                    refine JC.o hctx ?_ ?_
                    · intro L vals W hL hJ hd K hK
                      go_simp
                      (with_reducible refine (q_Int (7) W (by decide) (by decide)).mono ?_)
                      rintro e W9 ⟨r, rfl, hr, hq9⟩
                      exact hK.out r W9 _ (by kernel_rfl) (by have h8 := hr; rw [show (((7 : Int) : Rat) : Rat) = x4 from by rw [Hx4.out]; decide +kernel] at h8; exact h8) hq9
                    refine JC.o hctx ?_ ?_
                    · intro L vals W hL hJ hd K hK
                      have hN := hJ.q
                      have hQ := hG3.trans hN
                      have d5 : Nq W (vals 5) (x4) := hd 5 (by kernel_rfl)
                      go_simp
                      (with_reducible refine (q_Up _ (x4) (2) W (hT.q hQ) d5 B16.out).mono ?_)
                      rintro e W9 ⟨r, rfl, hr, hq9⟩
                      exact hK.out r W9 _ (by kernel_rfl) hr hq9
                    refine JC.o hctx ?_ ?_
                    · intro L vals W hL hJ hd K hK
                      have d6 : Nq W (vals 6) (up (bitsN 2) x4) := hd 6 (by kernel_rfl)
                      go_simp
                      (with_reducible refine (q_Text _ (up (bitsN 2) x4) W d6 (by have h0 := Z15.out; omega)).mono ?_)
                      rintro e W9 ⟨t, rfl, ht, hq9⟩
                      exact hK.out (.string t) W9 _ (by kernel_rfl) (congrArg Value.string ((str_of ht).trans (congrArg ofL (show textQ (up (bitsN 2) (x4)) = [56] by rw [Hx4.out]; decide +kernel)))) hq9
                    refine JC.o hctx ?_ ?_
                    · intro L vals W hL hJ hd K hK
                      have d7 : vals 7 = .string (⟨#[56]⟩) := hd 7 (by kernel_rfl)
                      generalize vals 7 = u7 at d7 hK ⊢
                      subst d7
                      go_simp
                      exact hK.out (.bool true) _ _ (by kernel_rfl) rfl (Q.refl _)
                    refine JC.o hctx ?_ ?_
                    · intro L vals W hL hJ hd K hK
                      have d4 : vals 4 = .bool true := hd 4 (by kernel_rfl)
                      generalize vals 4 = u4 at d4 hK ⊢
                      subst d4
                      have d8 : vals 8 = .bool true := hd 8 (by kernel_rfl)
                      generalize vals 8 = u8 at d8 hK ⊢
                      subst d8
                      go_simp
                      exact hK.out (.bool true) _ _ (by kernel_rfl) rfl (Q.refl _)
                    refine JC.o hctx ?_ ?_
                    · intro L vals W hL hJ hd K hK
                      have d9 : vals 9 = .bool true := hd 9 (by kernel_rfl)
                      generalize vals 9 = u9 at d9 hK ⊢
                      subst d9
                      go_simp
                      exact hK.out (.bool true) _ _ (by kernel_rfl) rfl (Q.refl _)
                    refine JC.o hctx ?_ ?_
                    · intro L vals W hL hJ hd K hK
                      go_simp
                      exact hK.out (.pointer (some ⟨gU, 0, none⟩)) _ _ (by kernel_rfl) rfl (Q.refl _)
                    refine JC.o hctx ?_ ?_
                    · intro L vals W hL hJ hd K hK
                      have hN := hJ.q
                      have d11 : vals 11 = .pointer (some ⟨gU, 0, none⟩) := hd 11 (by kernel_rfl)
                      generalize vals 11 = u11 at d11 hK ⊢
                      subst d11
                      have zb := hU3.q hN
                      have z0 : W.cell? ⟨gU, 0, none⟩ = some (.bool sU0) := zb.cell 0 rfl
                      have z1 : W.cell? ⟨gU, 1, none⟩ = some (.slice AU1 kU1 cU1) := zb.cell 1 rfl
                      have z2 : W.cell? ⟨gU, 2, none⟩ = some (.slice AU2 kU2 cU2) := zb.cell 2 rfl
                      clear zb
                      go_simp
                      exact hK.out (.agg #[.bool sU0, .slice AU1 kU1 cU1, .slice AU2 kU2 cU2]) _ _ (by kernel_rfl) (nsParts ((pSpan (x2) (x3)).q nU3 hN)).1 (Q.refl _)
                    refine JC.o hctx ?_ ?_
                    · intro L vals W hL hJ hd K hK
                      have d12 : Nq W (vals 12) (x2) := hd 12 (by kernel_rfl)
                      go_simp
                      (with_reducible refine (q_Text _ (x2) W d12 (by have h0 := Z2.out; omega)).mono ?_)
                      rintro e W9 ⟨t, rfl, ht, hq9⟩
                      exact hK.out (.string t) W9 _ (by kernel_rfl) (congrArg Value.string ((str_of ht).trans (congrArg ofL (show textQ (x2) = [45, 54] by rw [Hx2.out]; decide +kernel)))) hq9
                    refine JC.o hctx ?_ ?_
                    · intro L vals W hL hJ hd K hK
                      have d13 : vals 13 = .string (⟨#[45, 54]⟩) := hd 13 (by kernel_rfl)
                      generalize vals 13 = u13 at d13 hK ⊢
                      subst d13
                      go_simp
                      exact hK.out (.bool true) _ _ (by kernel_rfl) rfl (Q.refl _)
                    refine JC.o hctx ?_ ?_
                    · intro L vals W hL hJ hd K hK
                      have d10 : vals 10 = .bool true := hd 10 (by kernel_rfl)
                      generalize vals 10 = u10 at d10 hK ⊢
                      subst d10
                      have d14 : vals 14 = .bool true := hd 14 (by kernel_rfl)
                      generalize vals 14 = u14 at d14 hK ⊢
                      subst d14
                      go_simp
                      exact hK.out (.bool true) _ _ (by kernel_rfl) rfl (Q.refl _)
                    refine JC.o hctx ?_ ?_
                    · intro L vals W hL hJ hd K hK
                      have d15 : vals 15 = .bool true := hd 15 (by kernel_rfl)
                      generalize vals 15 = u15 at d15 hK ⊢
                      subst d15
                      go_simp
                      exact hK.out (.bool true) _ _ (by kernel_rfl) rfl (Q.refl _)
                    refine JC.o hctx ?_ ?_
                    · intro L vals W hL hJ hd K hK
                      go_simp
                      exact hK.out (.pointer (some ⟨gU, 3, none⟩)) _ _ (by kernel_rfl) rfl (Q.refl _)
                    refine JC.o hctx ?_ ?_
                    · intro L vals W hL hJ hd K hK
                      have hN := hJ.q
                      have d17 : vals 17 = .pointer (some ⟨gU, 3, none⟩) := hd 17 (by kernel_rfl)
                      generalize vals 17 = u17 at d17 hK ⊢
                      subst d17
                      have zb := hU3.q hN
                      have z3 : W.cell? ⟨gU, 3, none⟩ = some (.bool sU3) := zb.cell 3 rfl
                      have z4 : W.cell? ⟨gU, 4, none⟩ = some (.slice AU4 kU4 cU4) := zb.cell 4 rfl
                      have z5 : W.cell? ⟨gU, 5, none⟩ = some (.slice AU5 kU5 cU5) := zb.cell 5 rfl
                      clear zb
                      go_simp
                      exact hK.out (.agg #[.bool sU3, .slice AU4 kU4 cU4, .slice AU5 kU5 cU5]) _ _ (by kernel_rfl) (nsParts ((pSpan (x2) (x3)).q nU3 hN)).2 (Q.refl _)
                    refine JC.o hctx ?_ ?_
                    · intro L vals W hL hJ hd K hK
                      have d18 : Nq W (vals 18) (x3) := hd 18 (by kernel_rfl)
                      go_simp
                      (with_reducible refine (q_Text _ (x3) W d18 (by have h0 := Z3.out; omega)).mono ?_)
                      rintro e W9 ⟨t, rfl, ht, hq9⟩
                      exact hK.out (.string t) W9 _ (by kernel_rfl) (congrArg Value.string ((str_of ht).trans (congrArg ofL (show textQ (x3) = [49, 48] by rw [Hx3.out]; decide +kernel)))) hq9
                    refine JC.o hctx ?_ ?_
                    · intro L vals W hL hJ hd K hK
                      have d19 : vals 19 = .string (⟨#[49, 48]⟩) := hd 19 (by kernel_rfl)
                      generalize vals 19 = u19 at d19 hK ⊢
                      subst d19
                      go_simp
                      exact hK.out (.bool true) _ _ (by kernel_rfl) rfl (Q.refl _)
                    refine JC.o hctx ?_ ?_
                    · intro L vals W hL hJ hd K hK
                      have d16 : vals 16 = .bool true := hd 16 (by kernel_rfl)
                      generalize vals 16 = u16 at d16 hK ⊢
                      subst d16
                      have d20 : vals 20 = .bool true := hd 20 (by kernel_rfl)
                      generalize vals 20 = u20 at d20 hK ⊢
                      subst d20
                      go_simp
                      exact hK.out (.bool true) _ _ (by kernel_rfl) rfl (Q.refl _)
                    refine JC.o hctx ?_ ?_
                    · intro L vals W hL hJ hd K hK
                      have d21 : vals 21 = .bool true := hd 21 (by kernel_rfl)
                      generalize vals 21 = u21 at d21 hK ⊢
                      subst d21
                      go_simp
                      exact hK.out (.bool true) _ _ (by kernel_rfl) rfl (Q.refl _)
                    refine JC.o hctx ?_ ?_
                    · intro L vals W hL hJ hd K hK
                      go_simp
                      exact hK.out (.bool false) _ _ (by kernel_rfl) rfl (Q.refl _)
                    refine JC.o hctx ?_ ?_
                    · intro L vals W hL hJ hd K hK
                      have d23 : vals 23 = .bool false := hd 23 (by kernel_rfl)
                      generalize vals 23 = u23 at d23 hK ⊢
                      subst d23
                      go_simp
                      exact hK.out (.bool true) _ _ (by kernel_rfl) rfl (Q.refl _)
                    refine JC.o hctx ?_ ?_
                    · intro L vals W hL hJ hd K hK
                      have d22 : vals 22 = .bool true := hd 22 (by kernel_rfl)
                      generalize vals 22 = u22 at d22 hK ⊢
                      subst d22
                      have d24 : vals 24 = .bool true := hd 24 (by kernel_rfl)
                      generalize vals 24 = u24 at d24 hK ⊢
                      subst d24
                      go_simp
                      exact hK.out (.bool true) _ _ (by kernel_rfl) rfl (Q.refl _)
                    refine JC.o hctx ?_ ?_
                    · intro L vals W hL hJ hd K hK
                      have d25 : vals 25 = .bool true := hd 25 (by kernel_rfl)
                      generalize vals 25 = u25 at d25 hK ⊢
                      subst d25
                      go_simp
                      exact hK.out (.bool true) _ _ (by kernel_rfl) rfl (Q.refl _)
                    refine JC.o hctx ?_ ?_
                    · intro L vals W hL hJ hd K hK
                      have hN := hJ.q
                      have hQ := hG3.trans hN
                      go_simp
                      (with_reducible refine (q_Awake W (hT.q hQ) (hPx.q hQ)).mono ?_)
                      rintro e W9 ⟨rfl, hq9⟩
                      exact hK.out (.bool true) W9 _ (by kernel_rfl) rfl hq9
                    refine JC.o hctx ?_ ?_
                    · intro L vals W hL hJ hd K hK
                      have d26 : vals 26 = .bool true := hd 26 (by kernel_rfl)
                      generalize vals 26 = u26 at d26 hK ⊢
                      subst d26
                      have d27 : vals 27 = .bool true := hd 27 (by kernel_rfl)
                      generalize vals 27 = u27 at d27 hK ⊢
                      subst d27
                      go_simp
                      exact hK.out (.bool true) _ _ (by kernel_rfl) rfl (Q.refl _)
                    refine JC.o hctx ?_ ?_
                    · intro L vals W hL hJ hd K hK
                      have d28 : vals 28 = .bool true := hd 28 (by kernel_rfl)
                      generalize vals 28 = u28 at d28 hK ⊢
                      subst d28
                      go_simp
                      exact hK.out (.bool true) _ _ (by kernel_rfl) rfl (Q.refl _)
                    exact Ja.Steps.nil
                  intro L vals w4 hall hJ
                  clear hAt3
                  have hq4 := hJ.q
                  have hG4 := hG3.trans hq4
                  have hT4 := hT3.q hq4
                  have nT4 : Nq w4 (.agg #[.bool sT0, .slice AT1 kT1 cT1, .slice AT2 kT2 cT2]) (x1) := (pNum (x1)).q nT3 hq4
                  have hU4 := hU3.q hq4
                  have nU4 : Ns w4 (.agg #[.bool sU0, .slice AU1 kU1 cU1, .slice AU2 kU2 cU2, .bool sU3, .slice AU4 kU4 cU4, .slice AU5 kU5 cU5]) (x2) (x3) := (pSpan (x2) (x3)).q nU3 hq4
                  have hV4 := hV3.q hq4
                  have nV4 : Ns w4 (.agg #[.bool sV0, .slice AV1 kV1 cV1, .slice AV2 kV2 cV2, .bool sV3, .slice AV4 kV4 cV4, .slice AV5 kV5 cV5]) ((meetR (rmin (0) (((1 : Int) : Rat))) (rmax (0) (((1 : Int) : Rat))) (rmin (((3 : Int) : Rat)) (((2 : Int) : Rat))) (rmax (((3 : Int) : Rat)) (((2 : Int) : Rat)))).2.1) ((meetR (rmin (0) (((1 : Int) : Rat))) (rmax (0) (((1 : Int) : Rat))) (rmin (((3 : Int) : Rat)) (((2 : Int) : Rat))) (rmax (((3 : Int) : Rat)) (((2 : Int) : Rat)))).2.2) := (pSpan ((meetR (rmin (0) (((1 : Int) : Rat))) (rmax (0) (((1 : Int) : Rat))) (rmin (((3 : Int) : Rat)) (((2 : Int) : Rat))) (rmax (((3 : Int) : Rat)) (((2 : Int) : Rat)))).2.1) ((meetR (rmin (0) (((1 : Int) : Rat))) (rmax (0) (((1 : Int) : Rat))) (rmin (((3 : Int) : Rat)) (((2 : Int) : Rat))) (rmax (((3 : Int) : Rat)) (((2 : Int) : Rat)))).2.2)).q nV3 hq4
                  clear hG3 hT3 hU3 hV3 nT3 nU3 nV3
                  have f0 : vals 29 = .bool true := hJ.s 29 (hall 29 (by decide))
                  rw [f0]
                  clear f0
                  clear hall hJ
                  go_wp2_with fail
                  go_ret
                  exact ⟨ret_bool rfl, hG4⟩
end Go.Proofs.YtgokbhikgdhmpaaGreatDoor.K
