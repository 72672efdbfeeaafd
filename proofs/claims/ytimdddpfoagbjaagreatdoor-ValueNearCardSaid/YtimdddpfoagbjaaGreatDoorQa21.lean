/- Laws of values (P1.7, P1.8), each for every three strings; no condition. Part of the proof: texts Vf6 Vf5 Vf7 Vf8. -/
import Derived.Test.YtimdddpfoagbjaaGreatDoorQa07
import Derived.Test.YtimdddpfoagbjaaGreatDoorQa20
namespace Go.Proofs.YtimdddpfoagbjaaGreatDoor
open Go.RowKit
open Ma Me
theorem ret_si {a b : ByteArray} {x y : Int} (h1 : a = b) (h2 : x = y) : Ending.returned (.tuple #[.string a, .int .i64 x]) = .returned (.tuple #[.string b, .int .i64 y]) := by rw [h1, h2]
def Eb (w : World) (g : Nat) (pl : ByteArray) (pp : Int) : Prop := w.heap[g]? = some (.cells #[.string pl, .int .i64 pp] 175 (0, 0))
theorem Eb.cells {w : World} {g : Nat} {pl : ByteArray} {pp : Int} (h : Eb w g pl pp) : w.cell? ⟨g, 0, none⟩ = some (.string pl) ∧ w.cell? ⟨g, 1, none⟩ = some (.int .i64 pp) := by
  unfold Eb at h
  constructor <;> simp [World.cell?, h]
theorem Eb.frozen {w : World} {g : Nat} {pl : ByteArray} {pp : Int} (h : Eb w g pl pp) (i : Nat) : w.frozen? ⟨g, i, none⟩ = false := by
  unfold Eb at h
  simp [World.frozen?, h]
theorem Eb.lt {w : World} {g : Nat} {pl : ByteArray} {pp : Int} (h : Eb w g pl pp) : g < w.heap.size := by
  rcases Nat.lt_or_ge g w.heap.size with hlt | hge
  · exact hlt
  · unfold Eb at h; rw [Array.getElem?_eq_none hge] at h; cases h
theorem Eb.q {w w' : World} {g : Nat} {pl : ByteArray} {pp : Int} (h : Eb w g pl pp) (hq : Q w w') : Eb w' g pl pp := (hq.heap h.lt).trans h
def Pb (w : World) (g : Nat) (j : Nat) : Prop := Eb w g (pxLet j) (pxPow j)
theorem Pb.cells {w : World} {g j : Nat} (h : Pb w g j) : w.cell? ⟨g, 0, none⟩ = some (.string (pxLet j)) ∧ w.cell? ⟨g, 1, none⟩ = some (.int .i64 (pxPow j)) := Eb.cells h
theorem Pb.frozen {w : World} {g j : Nat} (h : Pb w g j) (i : Nat) : w.frozen? ⟨g, i, none⟩ = false := Eb.frozen h i
theorem Pb.lt {w : World} {g j : Nat} (h : Pb w g j) : g < w.heap.size := Eb.lt h
theorem Pb.q {w w' : World} {g j : Nat} (h : Pb w g j) (hq : Q w w') : Pb w' g j := Eb.q h hq
theorem Pb.put {w : World} {g j k : Nat} {pl : ByteArray} {pp : Int} (h : Pb w g j) (h1 : pxLet k = pl) (h2 : pxPow k = pp) : Pb ((w.setCell ⟨g, 0, none⟩ (.string pl)).setCell ⟨g, 1, none⟩ (.int .i64 pp)) g k := by
  subst h1 h2
  unfold Pb Eb at h ⊢
  simp [World.setCell, Array.getElem?_modify, h]
theorem Nb.far {w : World} {g b : Nat} {s : Bool} {t u x y : Value} (h : Nb w g s t u) (hne : g ≠ b) : Nb ((w.setCell ⟨b, 0, none⟩ x).setCell ⟨b, 1, none⟩ y) g s t u := by
  unfold Nb at h ⊢
  rw [Below.heap_setCell _ _ _ _ hne, Below.heap_setCell _ _ _ _ hne]
  exact h
theorem px_heap {w w' : World} {g : Nat} {o : Obj} (h : w.heap[g]? = some o) (hq : Q w w') (hg : g < w.heap.size) : w'.heap[g]? = some o := (hq.heap hg).trans h
set_option maxRecDepth 100000 in
set_option maxHeartbeats 2000000 in
theorem q_prefixOf (x : Value) (p : Rat) (w : World) (hPx : Px w) (hx : Nq w x p) (hB : 64 * sz p + 2000 ≤ LIM) : Calls Tryz.prog 126 #[x] w fun e w' => e = .returned (.tuple #[.string (pxLet (pIdx p 10)), .int .i64 (pxPow (pIdx p 10))]) ∧ Q w w' := by
  obtain ⟨s1, A1, n1, c1, A2, n2, c2, rfl, E1, Z1, O1, hxt, hxb⟩ := hx.form
  obtain ⟨w0, hW, hG0, hX0⟩ := boxes1 w s1 (.slice A1 n1 c1) (.slice A2 n2 c2)
  have HB := Lib.hid hB; clear hB
  obtain ⟨t, fr, hp⟩ := hPx.q hG0
  have g0 : w0.cell? ⟨0, 0, none⟩ = some (.string (pxLet 0)) := by rw [cell_of_row w0 _ 0 _ t fr hp]; rfl
  have g1 : w0.cell? ⟨0, 1, none⟩ = some (.int .i64 (pxPow 0)) := by rw [cell_of_row w0 _ 1 _ t fr hp]; rfl
  have glt : (0 : Nat) < w0.heap.size := World.block_lt_of_cell? w0 _ g0
  have hs0 : w.heap.size ≠ w0.heap.size := Nat.ne_of_lt hX0.lt
  have hs0le : w.heap.size ≤ w0.heap.size := Nat.le_of_lt hX0.lt
  go_enter Tryz.func126, Tryz.ntmps126
  go_wp2_with (refine wpList_load_row rfl 176 (.global 0) rfl 0 rfl t pxCells fr _ (px_heap hp ((Q.refl _).alloc _) glt) Tryz.underlying176 rfl px_info ?_)
  clear hW
  have hb0 : Pb (w0.alloc (.cells #[.string (pxLet 0), .int .i64 (pxPow 0)] 175)) w0.heap.size 0 := heap_alloc_new w0 _
  have hX1 := hX0.q ((Q.refl w0).alloc (.cells #[.string (pxLet 0), .int .i64 (pxPow 0)] 175))
  have hG1 := hG0.alloc (.cells #[.string (pxLet 0), .int .i64 (pxPow 0)] 175)
  clear g0 g1 hp
  go_loopw [10] (fun i wr => ∃ k : Nat, k ≤ 10 ∧ i = .int .i64 (k : Int) ∧ Pb wr w0.heap.size (pIdx p k) ∧ Nb wr w.heap.size s1 (.slice A1 n1 c1) (.slice A2 n2 c2) ∧ Q w wr) (fun i _ => 10 - (intOf i).toNat)
  case atStart => exact ⟨0, Nat.zero_le _, rfl, hb0, hX1, hG1⟩
  case round =>
    obtain ⟨k, hk, rfl, hbk, hXk, hGk⟩ := hrel
    clear hb0 hX1 hG1
    obtain ⟨j, hj⟩ : ∃ j, pIdx p k = j := ⟨_, rfl⟩
    rw [hj] at hbk
    have HJ := Lib.hid hj; clear hj
    by_cases hlt : k < 10
    · obtain ⟨pl, hpl⟩ : ∃ pl, pxLet k = pl := ⟨_, rfl⟩
      obtain ⟨pp, hpp⟩ : ∃ pp, pxPow k = pp := ⟨_, rfl⟩
      have hix2 : ∀ w, (Instr.index 176 (.agg pxCells) (.int .i64 (k : Int))).run Tryz.prog w = .ok (.agg #[.string pl, .int .i64 pp]) w := fun w => by
        rw [px_index k hlt w, ← hpl, ← hpp]; rfl
      have hp15 : pp.natAbs ≤ 15 := by rw [← hpp]; unfold pxPow; omega
      have hp1m : pp.natAbs ≤ 1000000 := by omega
      have hcb : 64 * (sz p + sz (tenQ pp)) + 400 ≤ LIM := by have h1 := sz_ten pp; have := HB.out; rw [LIM_eq] at *; omega
      obtain ⟨c, hc⟩ : ∃ c, rc p (tenQ pp) = c := ⟨_, rfl⟩
      have hcge := rc_ge p (tenQ pp)
      rw [hc] at hcge
      have hstep : pIdx p (k + 1) = if 0 ≤ c then k else j := by
        have h1 : pIdx p (k + 1) = if tenQ (3 * (k : Int) - 15) ≤ p then k else pIdx p k := rfl
        rw [h1, HJ.out]
        have h2 : tenQ (3 * (k : Int) - 15) = tenQ pp := by rw [← hpp]; rfl
        rw [h2]
        by_cases h : 0 ≤ c
        · rw [if_pos h, if_pos (hcge.1 h)]
        · rw [if_neg h, if_neg (fun h3 => h (hcge.2 h3))]
      have HC := Lib.hid hc; have HPL := Lib.hid hpl; have HPP := Lib.hid hpp; have HST := Lib.hid hstep
      clear hc hpl hpp hstep hcge hp15
      obtain ⟨w2, hw2⟩ : ∃ w2, wr.alloc (.cells #[.string pl, .int .i64 pp] 175) = w2 := ⟨_, rfl⟩
      have hqa : Q wr w2 := by rw [← hw2]; exact (Q.refl _).alloc _
      have hEn : w2.heap[wr.heap.size]? = some (.cells #[.string pl, .int .i64 pp] 175 (0, 0)) := by rw [← hw2]; exact heap_alloc_new wr _
      have hne : wr.heap.size ≠ w0.heap.size := by have := hbk.lt; omega
      go_wp2_with fail
      clear hw2 hix2
      have hX2 := hXk.q hqa
      have hb2 := hbk.q hqa
      have hG2 := hGk.trans hqa
      have hE2 : Eb w2 wr.heap.size pl pp := hEn
      clear hEn
      obtain ⟨x0, x1, x2⟩ := hX2.cells
      obtain ⟨f0, f1⟩ := hE2.cells
      go_region_held3 (fun W => W.cell? ⟨w.heap.size, 0, none⟩ = some (.bool s1) ∧ W.cell? ⟨w.heap.size, 1, none⟩ = some (.slice A1 n1 c1) ∧ W.cell? ⟨w.heap.size, 2, none⟩ = some (.slice A2 n2 c2) ∧ W.cell? ⟨wr.heap.size, 1, none⟩ = some (.int .i64 pp)) (first | exact ⟨x0, x1, x2, f1⟩ | exact ⟨by assumption, by assumption, by assumption, by assumption⟩ | go_keep) (first
        | (go_at_call 33; (with_reducible refine (q_Cmp _ _ p (tenQ pp) _ (hx.q hG3) htv hcb).mono ?_); rintro e w4 ⟨rfl, hq4⟩; rw [HC.out]; have hG4 := hG3.trans hq4; have hX4 := hX3.q hq4; have hE4 := hE3.q hq4; have hb4 := hb3.q hq4; obtain ⟨x0, x1, x2⟩ := hX4.cells; obtain ⟨f0, f1⟩ := hE4.cells)
        | (go_at_call 124; (with_reducible refine (q_tens pp _ hp1m).mono ?_); rintro e w3 ⟨tv, rfl, htv, hq3d⟩; have hq3 : Q w2 w3 := (Q.refl w2).drew.trans hq3d; obtain ⟨s7, A7, n7, c7, A8, n8, c8, rfl, -⟩ := htv.form; have hG3 := hG2.trans hq3; have hX3 := hX2.q hq3; have hE3 := hE2.q hq3; have hb3 := hb2.q hq3; obtain ⟨x0, x1, x2⟩ := hX3.cells; obtain ⟨f0, f1⟩ := hE3.cells))
      all_goals
        obtain ⟨f0, f1⟩ := hE4.cells
        obtain ⟨r0, r1⟩ := hb4.cells
        have fz := hb4.frozen
        by_cases hc0 : 0 ≤ c
        · have hres : pIdx p (k + 1) = k := by rw [HST.out, if_pos hc0]
          have HRES := Lib.hid hres; clear hres
          go_wp2_with fail
          go_roundw
          case rel => exact ⟨k + 1, by omega, by go_num, by rw [HRES.out]; exact hb4.put HPL.out HPP.out, hX4.far hs0, (hG4.setCell (by exact hs0le) _).setCell (by exact hs0le) _⟩
          case measure => simp [intOf]; omega
        · have hres : pIdx p (k + 1) = j := by rw [HST.out, if_neg hc0]
          have HRES := Lib.hid hres; clear hres
          go_wp2_with fail
          go_roundw
          case rel => exact ⟨k + 1, by omega, by go_num, by rw [HRES.out]; exact hb4, hX4, hG4⟩
          case measure => simp [intOf]; omega
    · have hk10 : k = 10 := by omega
      subst hk10
      obtain ⟨pl, hpl⟩ : ∃ pl, pxLet j = pl := ⟨_, rfl⟩
      obtain ⟨pp, hpp⟩ : ∃ pp, pxPow j = pp := ⟨_, rfl⟩
      obtain ⟨r0, r1⟩ := hbk.cells
      rw [hpl] at r0
      rw [hpp] at r1
      have HPL := Lib.hid hpl; have HPP := Lib.hid hpp
      clear hpl hpp
      go_wp2_with fail
      go_quiet (fail)
      go_wp2_with fail
      go_ret2
      exact ⟨ret_si (by rw [HJ.out, HPL.out]) (by rw [HJ.out, HPP.out]), hGk.drewN _⟩
end Go.Proofs.YtimdddpfoagbjaaGreatDoor
namespace Go.Proofs.YtimdddpfoagbjaaGreatDoor
open Go.RowKit
open Ma Me
theorem readR_long {neg two : Bool} {f b : List UInt8} {p : Int} (h : ¬ (¬ Dig1 f ∨ (two = true ∧ ¬ Dig1 b))) (hl : 400 < f.length + b.length) : readR neg f b two p = (3, 0) := by
  unfold readR
  rw [if_neg h, if_pos hl]
theorem readR_ok {neg two : Bool} {f b : List UInt8} {p : Int} (h : ¬ (¬ Dig1 f ∨ (two = true ∧ ¬ Dig1 b))) (hl : ¬ 400 < f.length + b.length) : readR neg f b two p = (0, sgQ neg ((dv (f ++ b) : Nat) : Rat) * tenQ (p - b.length)) := by
  unfold readR
  rw [if_neg h, if_neg hl]
theorem slash_at (l : List UInt8) : 0 ≤ Lib.indexByte l 47 ↔ 47 ∈ l := by
  have h1 := Lib.indexByte_ge l 47
  constructor
  · intro h
    obtain ⟨k, hk⟩ := Int.eq_ofNat_of_zero_le h
    exact List.mem_of_getElem? (Lib.indexByte_some hk).1
  · intro hm
    rcases (by omega : Lib.indexByte l 47 = -1 ∨ 0 ≤ Lib.indexByte l 47) with h | h
    · obtain ⟨j, hj, hj2⟩ := List.getElem_of_mem hm
      exact absurd (by rw [List.getElem?_eq_getElem hj, hj2]) (Lib.indexByte_none h j)
    · exact h
theorem cutP_len (l : List UInt8) : (cutP l).1.length ≤ l.length := by
  unfold cutP
  split
  · split
    · show l.dropLast.length ≤ _; rw [List.length_dropLast]; omega
    · exact Nat.le_refl _
  · exact Nat.le_refl _
theorem fore_len (c : UInt8) (l : List UInt8) : (fore c l).length + (aft c l).length ≤ l.length := by
  rcases fore_aft c l with ⟨-, h1, h2⟩ | ⟨-, h⟩
  · rw [h1, h2]; simp
  · have := congrArg List.length h
    rw [List.length_append, List.length_cons] at this
    omega
theorem sgQ_parts (s : Bool) (n : Nat) : (sgQ s ((n : Nat) : Rat)).num = sg s n ∧ (sgQ s ((n : Nat) : Rat)).den = 1 := by
  cases s
  · exact ⟨Rat.num_natCast _, Rat.den_natCast _⟩
  · unfold sgQ sg
    rw [if_pos rfl, if_pos rfl, Rat.neg_num, Rat.neg_den]
    exact ⟨by rw [Rat.num_natCast], Rat.den_natCast _⟩
theorem sz_read (s : Bool) (l : List UInt8) (h : AllD l) (hl : l.length ≤ 400) : sz (sgQ s ((dv l : Nat) : Rat)) ≤ 401 := by
  have h1 := sz_nat (dv l)
  have h2 := dg_dv h hl
  unfold sgQ
  split
  · rw [sz_neg]; omega
  · omega
set_option maxRecDepth 100000 in
set_option maxHeartbeats 4000000 in
theorem q_Read (s : ByteArray) (w : World) (hT : Tb w) (hPx : Px w) (hs : s.size ≤ 9223372036854775806) : Calls Tryz.prog 24 #[.string s] w fun e w' => ∃ r, e = .returned (.tuple #[r, .int .i64 (readS s.data.toList).1]) ∧ Nq w' r (readS s.data.toList).2 ∧ Q w w' := by
  obtain ⟨w0, hW, hG0, hR0⟩ : ∃ W, w.alloc (.cells #[.bool false, .slice none 0 0, .slice none 0 0] 25) = W ∧ Q w W ∧ Nb W w.heap.size false (.slice none 0 0) (.slice none 0 0) := ⟨_, rfl, (Q.refl _).alloc _, Nb.new w _ _ _⟩
  by_cases h47 : 47 ∈ s.data.toList
  · have hP : readS s.data.toList = parseS s.data.toList := if_pos h47
    have HP := Lib.hid hP; clear hP
    have hix := (slash_at s.data.toList).2 h47
    have HIX := Lib.hid hix; clear hix h47
    obtain ⟨er, her⟩ : ∃ er, (parseS s.data.toList).1 = er := ⟨_, rfl⟩
    have HER := Lib.hid her; clear her
    go_enter Tryz.func24, Tryz.ntmps24
    go_wp2_with fail
    clear hW
    refine (Tryz.strings_Contains_one s 47 _).mono ?_
    rintro e w90 ⟨rfl, rfl⟩
    rw [decide_eq_true HIX.out]
    go_wp2_with fail
    refine (q_Parse s _ (hT.q hG0) hs).mono ?_
    rintro e w1 ⟨r, rfl, hv, hq1⟩
    have hG1 := hG0.trans hq1
    have hR1 := hR0.q hq1
    have fz := hR1.frozen
    obtain ⟨r0, r1, r2⟩ := hR1.cells
    rw [HER.out]
    obtain ⟨s6, B1, m1, d1, B2, m2, d2, rfl, -⟩ := hv.form
    go_wp2_with fail
    obtain ⟨z0, z1, z2, hvF, hqF⟩ := Nq.store hR1 hv hG1 (Nat.le_refl _)
    unfold put3 at z0 z1 z2 hvF hqF
    refine bodyPost_ret (v := .tuple #[.agg #[.bool s6, .slice B1 m1 d1, .slice B2 m2 d2], .int .i64 er]) (by simp [results, Tryz.results24, go_sem, z0, z1, z2]) rfl ?_
    rw [HP.out, HER.out]
    exact ⟨_, rfl, hvF, hqF⟩
  · have HIX : Hid (decide (0 ≤ Lib.indexByte s.data.toList 47) = false) := decide_eq_false (fun h => h47 ((slash_at s.data.toList).1 h))
    obtain ⟨neg, hneg⟩ : ∃ neg, isNeg s.data.toList = neg := ⟨_, rfl⟩
    obtain ⟨r, hr⟩ : ∃ r, (cutP (unsigned s.data.toList)).1 = r := ⟨_, rfl⟩
    obtain ⟨p, hp⟩ : ∃ p, (cutP (unsigned s.data.toList)).2 = p := ⟨_, rfl⟩
    have hpl := cutP_le (unsigned s.data.toList)
    rw [hp] at hpl
    obtain ⟨two, htwo⟩ : ∃ two, decide (46 ∈ r) = two := ⟨_, rfl⟩
    obtain ⟨f, hf⟩ : ∃ f, fore 46 r = f := ⟨_, rfl⟩
    obtain ⟨b, hb⟩ : ∃ b, aft 46 r = b := ⟨_, rfl⟩
    have hb2 : two = false → b = [] := fun h => by rw [← hb]; exact (fore_all (of_decide_eq_false (htwo.trans h))).2
    have hP : readS s.data.toList = readR neg f b two p := by unfold readS; rw [if_neg h47, hneg, hr, hp, htwo, hf, hb]
    have HP := Lib.hid hP; clear hP
    have HN := Lib.hid hneg; clear hneg
    have HRR := Lib.hid hr; clear hr
    have HPP := Lib.hid hp; clear hp
    have HT2 := Lib.hid htwo; clear htwo
    have HF := Lib.hid hf; clear hf
    have HBb := Lib.hid hb; clear hb
    have HB2 := Lib.hid hb2; clear hb2
    have H47 := Lib.hid h47; clear h47
    have hpl1 : -15 ≤ p := by omega
    have hpl2 : p ≤ 15 := by omega
    clear hpl
    go_enter Tryz.func24, Tryz.ntmps24
    go_wp2_with fail
    clear hW
    refine (Tryz.strings_Contains_one s 47 _).mono ?_
    rintro e w90 ⟨rfl, rfl⟩
    rw [HIX.out]
    go_wp2_with fail
    refine (v_minus_sign s _).mono ?_
    rintro e w91 ⟨a, rfl, ha, hsz, rfl⟩
    rw [HN.out]
    have HA := Lib.hid ha; clear ha
    go_wp2_with fail
    refine (v_cutPrefix a _ (hPx.q hG0) (by omega)).mono ?_
    rintro e w1 ⟨c, rfl, hc, hq1⟩
    have hG1 := hG0.trans hq1
    have hR1 := hR0.q hq1
    rw [HA.out] at hc ⊢
    rw [HPP.out]
    rw [HRR.out] at hc
    have hcs : c.size ≤ 9223372036854775806 := by have h1 := cutP_len (unsigned s.data.toList); rw [HRR.out, ← hc, ← HA.out, ← Lib.size_eq, ← Lib.size_eq] at h1; omega
    have HC := Lib.hid hc; clear hc
    go_wp2_with fail
    refine (v_Cut c 46 _ hcs).mono ?_
    rintro e w2 ⟨fa, fb, rfl, hfa, hfb, hq2⟩
    have hG2 := hG1.trans hq2
    have hR2 := hR1.q hq2
    rw [HC.out] at hfa hfb ⊢
    rw [HT2.out]
    rw [HF.out] at hfa
    rw [HBb.out] at hfb
    have la : fa.size = f.length := by rw [Lib.size_eq, hfa]
    have lb : fb.size = b.length := by rw [Lib.size_eq, hfb]
    have lc : fa.size + fb.size ≤ c.size := by have h1 := fore_len 46 r; rw [HF.out, HBb.out] at h1; rw [la, lb, Lib.size_eq, HC.out]; exact h1
    have HFA := Lib.hid hfa; have HFB := Lib.hid hfb; have LA := Lib.hid la; have LB := Lib.hid lb; clear hfa hfb la lb
    go_wp2_with fail
    refine (v_allDigits fa _).mono ?_
    rintro e w3 ⟨rfl, hq3⟩
    have hG3 := hG2.trans hq3
    have hR3 := hR2.q hq3
    rw [HFA.out]
    by_cases hd : Dig1 f
    · rw [show allDB f = true from decide_eq_true hd]
      cases two
      · have hok : Hid (¬ (¬ Dig1 f ∨ (false = true ∧ ¬ Dig1 b))) := fun h => h.elim (fun h => h hd) (fun h => by cases h.1)
        have hAb : AllD b := by rw [HB2.out rfl]; intro c hc; simp at hc
        have HAB : Hid (AllD (f ++ b)) := fun c hc => (List.mem_append.1 hc).elim (hd.1 c) (hAb c)
        clear hAb
        by_cases hl : 400 < f.length + b.length
        · have hl2 : (400 : Int) < (fa.size : Int) + (fb.size : Int) := by rw [LA.out, LB.out]; omega
          have HLL := Lib.hid hl; clear hl
          have fz := hR3.frozen
          obtain ⟨r0, r1, r2⟩ := hR3.cells
          go_wp2_with fail
          have hv := nq_zero w3
          have hres : readR neg f b false p = ((3 : Int), (0 : Rat)) := readR_long (by have h := hok.out; simp at h ⊢; exact h) HLL.out
          obtain ⟨z0, z1, z2, hvF, hqF⟩ := Nq.store hR3 hv hG3 (Nat.le_refl _)
          unfold put3 at z0 z1 z2 hvF hqF
          refine bodyPost_ret (v := .tuple #[.agg #[.bool false, .slice none 0 0, .slice none 0 0], .int .i64 3]) (by simp [results, Tryz.results24, go_sem, z0, z1, z2]) rfl ?_
          rw [HP.out, hres]
          exact ⟨_, rfl, hvF, hqF⟩
        · have hl2 : ¬ (400 : Int) < (fa.size : Int) + (fb.size : Int) := by rw [LA.out, LB.out]; omega
          have hsa : fa.size ≤ 400 := by rw [LA.out]; omega
          have hsb : fb.size ≤ 400 := by rw [LB.out]; omega
          have HLL := Lib.hid hl; clear hl
          have hcat : (fa ++ fb).data.toList = f ++ b := by rw [cat_list, HFA.out, HFB.out]
          have hcs2 : (fa ++ fb).size + 100 ≤ LIM := by rw [ByteArray.size_append, LIM_eq]; omega
          have HCAT := Lib.hid hcat; clear hcat
          go_wp2_with fail
          refine (v_fromDigits (fa ++ fb) _ (by rw [HCAT.out]; exact HAB.out) hcs2).mono ?_
          rintro e w4 ⟨t1, rfl, ht1, hq4, -⟩
          have hG4 := hG3.trans hq4
          have hR4 := hR3.q hq4
          rw [HCAT.out] at ht1
          obtain ⟨A5, n5, c5, rfl⟩ := ht1.form
          go_wp2_with fail
          refine (v_integral neg _ (dv (f ++ b)) _ ht1).mono ?_
          rintro e w5 ⟨v5, rfl, hv5, hq5⟩
          have hG5 := hG4.trans hq5
          have hR5 := hR4.q hq5
          obtain ⟨B1, d1, B2, d2, rfl, -, -⟩ := hv5.form
          have hv := Nq.int (q := sgQ neg ((dv (f ++ b) : Nat) : Rat)) hv5 (sgQ_parts neg _).1 (sgQ_parts neg _).2
          generalize (decide (0 < dv (f ++ b)) && neg) = s4 at *
          generalize dg W64 (dv (f ++ b)) = m1 at *
          generalize dg W64 0 = m2 at *
          have hqd : Q w5 (w5.alloc (.cells #[.bool s4, .slice B1 m1 d1, .slice B2 m2 d2] 25)) := (Q.refl _).alloc _
          have hE : Nb (w5.alloc (.cells #[.bool s4, .slice B1 m1 d1, .slice B2 m2 d2] 25)) w5.heap.size s4 (.slice B1 m1 d1) (.slice B2 m2 d2) := Nb.new _ _ _ _
          have neE : w5.heap.size ≠ w.heap.size := by have := hR5.lt; omega
          have tw1 : IntKind.i64.wrap (p - (fb.size : Int)) = p - (fb.size : Int) := IntWalk.i64_in _ (by omega)
          have hz2 := sz_read neg (f ++ b) HAB.out (show (f ++ b).length ≤ 400 by rw [List.length_append]; exact Nat.le_of_not_lt HLL.out)
          have hz3 := sz_ten (p - (fb.size : Int))
          have hB : 16 * (sz (sgQ neg ((dv (f ++ b) : Nat) : Rat)) + sz (tenQ (p - (fb.size : Int)))) + 100 ≤ LIM := by rw [LIM_eq]; omega
          clear hz2 hz3
          go_wp2_with fail
          generalize hwd : w5.alloc (.cells #[.bool s4, .slice B1 m1 d1, .slice B2 m2 d2] 25) = w6 at *
          clear hwd
          have hG6 := hG5.trans hqd
          have hR6 := hR5.q hqd
          have hE6 := hE
          have hv6 := hv.q hqd
          clear hv
          obtain ⟨e0, e1, e2⟩ := hE6.cells
          go_region_held3 (fun W => W.cell? ⟨w5.heap.size, 0, none⟩ = some (.bool s4) ∧ W.cell? ⟨w5.heap.size, 1, none⟩ = some (.slice B1 m1 d1) ∧ W.cell? ⟨w5.heap.size, 2, none⟩ = some (.slice B2 m2 d2)) (first | exact ⟨e0, e1, e2⟩ | exact ⟨by assumption, by assumption, by assumption⟩ | exact ⟨(keep3 neE).trans (by assumption), (keep3 neE).trans (by assumption), (keep3 neE).trans (by assumption)⟩ | go_keep) (first
            | (go_at_call 29; refine (q_Mul _ _ (sgQ neg ((dv (f ++ b) : Nat) : Rat)) (tenQ (p - (fb.size : Int))) _ (hT.q hG7) (hv6.q hq7) htv hB).mono ?_; rintro e w8 ⟨v9, rfl, hv, hq8⟩; have hG8 := hG7.trans hq8; have hR8 := hR7.q hq8; have hE8 := hE7.q hq8; obtain ⟨e0, e1, e2⟩ := hE8.cells; have fz := hR8.frozen; obtain ⟨r0, r1, r2⟩ := hR8.cells; obtain ⟨s8, C1, l1, g1, C2, l2, g2, rfl, -⟩ := hv.form)
            | (go_at_call 124; refine (q_tens (p - (fb.size : Int)) _ (by omega)).mono ?_; rintro e w7 ⟨tv, rfl, htv, hq7d⟩; have hq7 : Q w6 w7 := (Q.refl w6).drew.trans hq7d; have hG7 := hG6.trans hq7; have hR7 := hR6.q hq7; have hE7 := hE6.q hq7; obtain ⟨e0, e1, e2⟩ := hE7.cells; obtain ⟨s7, A7, n7, c7, A8, n8, c8, rfl, -⟩ := htv.form))
          all_goals
            go_wp2_with fail
            have hres : readR neg f b false p = ((0 : Int), sgQ neg ((dv (f ++ b) : Nat) : Rat) * tenQ (p - (fb.size : Int))) := by rw [LB.out]; exact readR_ok (by have h := hok.out; simp at h ⊢; exact h) HLL.out
            obtain ⟨z0, z1, z2, hvF, hqF⟩ := Nq.store hR8 hv hG8 (Nat.le_refl _)
            unfold put3 at z0 z1 z2 hvF hqF
            refine bodyPost_ret (v := .tuple #[.agg #[.bool s8, .slice C1 l1 g1, .slice C2 l2 g2], .int .i64 0]) (by simp [results, Tryz.results24, go_sem, z0, z1, z2]) rfl ?_
            rw [HP.out, hres]
            exact ⟨_, rfl, hvF, hqF⟩
      · go_wp2_with fail
        refine (v_allDigits fb _).mono ?_
        rintro e w4 ⟨rfl, hq4⟩
        have hG4 := hG3.trans hq4
        have hR4 := hR3.q hq4
        rw [HFB.out]
        by_cases hd2 : Dig1 b
        · rw [show allDB b = true from decide_eq_true hd2]
          have hok : Hid (¬ (¬ Dig1 f ∨ (true = true ∧ ¬ Dig1 b))) := fun h => h.elim (fun h => h hd) (fun h => h.2 hd2)
          have hAb : AllD b := hd2.1
          have HAB : Hid (AllD (f ++ b)) := fun c hc => (List.mem_append.1 hc).elim (hd.1 c) (hAb c)
          clear hAb
          by_cases hl : 400 < f.length + b.length
          · have hl2 : (400 : Int) < (fa.size : Int) + (fb.size : Int) := by rw [LA.out, LB.out]; omega
            have HLL := Lib.hid hl; clear hl
            have fz := hR4.frozen
            obtain ⟨r0, r1, r2⟩ := hR4.cells
            go_wp2_with fail
            have hv := nq_zero w4
            have hres : readR neg f b true p = ((3 : Int), (0 : Rat)) := readR_long (by have h := hok.out; simp at h ⊢; exact h) HLL.out
            obtain ⟨z0, z1, z2, hvF, hqF⟩ := Nq.store hR4 hv hG4 (Nat.le_refl _)
            unfold put3 at z0 z1 z2 hvF hqF
            refine bodyPost_ret (v := .tuple #[.agg #[.bool false, .slice none 0 0, .slice none 0 0], .int .i64 3]) (by simp [results, Tryz.results24, go_sem, z0, z1, z2]) rfl ?_
            rw [HP.out, hres]
            exact ⟨_, rfl, hvF, hqF⟩
          · have hl2 : ¬ (400 : Int) < (fa.size : Int) + (fb.size : Int) := by rw [LA.out, LB.out]; omega
            have hsa : fa.size ≤ 400 := by rw [LA.out]; omega
            have hsb : fb.size ≤ 400 := by rw [LB.out]; omega
            have HLL := Lib.hid hl; clear hl
            have hcat : (fa ++ fb).data.toList = f ++ b := by rw [cat_list, HFA.out, HFB.out]
            have hcs2 : (fa ++ fb).size + 100 ≤ LIM := by rw [ByteArray.size_append, LIM_eq]; omega
            have HCAT := Lib.hid hcat; clear hcat
            go_wp2_with fail
            refine (v_fromDigits (fa ++ fb) _ (by rw [HCAT.out]; exact HAB.out) hcs2).mono ?_
            rintro e w5 ⟨t1, rfl, ht1, hq5, -⟩
            have hG5 := hG4.trans hq5
            have hR5 := hR4.q hq5
            rw [HCAT.out] at ht1
            obtain ⟨A5, n5, c5, rfl⟩ := ht1.form
            go_wp2_with fail
            refine (v_integral neg _ (dv (f ++ b)) _ ht1).mono ?_
            rintro e w6 ⟨v5, rfl, hv5, hq6⟩
            have hG6 := hG5.trans hq6
            have hR6 := hR5.q hq6
            obtain ⟨B1, d1, B2, d2, rfl, -, -⟩ := hv5.form
            have hv := Nq.int (q := sgQ neg ((dv (f ++ b) : Nat) : Rat)) hv5 (sgQ_parts neg _).1 (sgQ_parts neg _).2
            generalize (decide (0 < dv (f ++ b)) && neg) = s4 at *
            generalize dg W64 (dv (f ++ b)) = m1 at *
            generalize dg W64 0 = m2 at *
            have hqd : Q w6 (w6.alloc (.cells #[.bool s4, .slice B1 m1 d1, .slice B2 m2 d2] 25)) := (Q.refl _).alloc _
            have hE : Nb (w6.alloc (.cells #[.bool s4, .slice B1 m1 d1, .slice B2 m2 d2] 25)) w6.heap.size s4 (.slice B1 m1 d1) (.slice B2 m2 d2) := Nb.new _ _ _ _
            have neE : w6.heap.size ≠ w.heap.size := by have := hR6.lt; omega
            have tw1 : IntKind.i64.wrap (p - (fb.size : Int)) = p - (fb.size : Int) := IntWalk.i64_in _ (by omega)
            have hz2 := sz_read neg (f ++ b) HAB.out (show (f ++ b).length ≤ 400 by rw [List.length_append]; exact Nat.le_of_not_lt HLL.out)
            have hz3 := sz_ten (p - (fb.size : Int))
            have hB : 16 * (sz (sgQ neg ((dv (f ++ b) : Nat) : Rat)) + sz (tenQ (p - (fb.size : Int)))) + 100 ≤ LIM := by rw [LIM_eq]; omega
            clear hz2 hz3
            go_wp2_with fail
            generalize hwd : w6.alloc (.cells #[.bool s4, .slice B1 m1 d1, .slice B2 m2 d2] 25) = w7 at *
            clear hwd
            have hG7 := hG6.trans hqd
            have hR7 := hR6.q hqd
            have hE7 := hE
            have hv6 := hv.q hqd
            clear hv
            obtain ⟨e0, e1, e2⟩ := hE7.cells
            go_region_held3 (fun W => W.cell? ⟨w6.heap.size, 0, none⟩ = some (.bool s4) ∧ W.cell? ⟨w6.heap.size, 1, none⟩ = some (.slice B1 m1 d1) ∧ W.cell? ⟨w6.heap.size, 2, none⟩ = some (.slice B2 m2 d2)) (first | exact ⟨e0, e1, e2⟩ | exact ⟨by assumption, by assumption, by assumption⟩ | exact ⟨(keep3 neE).trans (by assumption), (keep3 neE).trans (by assumption), (keep3 neE).trans (by assumption)⟩ | go_keep) (first
              | (go_at_call 29; refine (q_Mul _ _ (sgQ neg ((dv (f ++ b) : Nat) : Rat)) (tenQ (p - (fb.size : Int))) _ (hT.q hG8) (hv6.q hq8) htv hB).mono ?_; rintro e w9 ⟨v9, rfl, hv, hq9⟩; have hG9 := hG8.trans hq9; have hR9 := hR8.q hq9; have hE9 := hE8.q hq9; obtain ⟨e0, e1, e2⟩ := hE9.cells; have fz := hR9.frozen; obtain ⟨r0, r1, r2⟩ := hR9.cells; obtain ⟨s8, C1, l1, g1, C2, l2, g2, rfl, -⟩ := hv.form)
              | (go_at_call 124; refine (q_tens (p - (fb.size : Int)) _ (by omega)).mono ?_; rintro e w8 ⟨tv, rfl, htv, hq8d⟩; have hq8 : Q w7 w8 := (Q.refl w7).drew.trans hq8d; have hG8 := hG7.trans hq8; have hR8 := hR7.q hq8; have hE8 := hE7.q hq8; obtain ⟨e0, e1, e2⟩ := hE8.cells; obtain ⟨s7, A7, n7, c7, A8, n8, c8, rfl, -⟩ := htv.form))
            all_goals
              go_wp2_with fail
              have hres : readR neg f b true p = ((0 : Int), sgQ neg ((dv (f ++ b) : Nat) : Rat) * tenQ (p - (fb.size : Int))) := by rw [LB.out]; exact readR_ok (by have h := hok.out; simp at h ⊢; exact h) HLL.out
              obtain ⟨z0, z1, z2, hvF, hqF⟩ := Nq.store hR9 hv hG9 (Nat.le_refl _)
              unfold put3 at z0 z1 z2 hvF hqF
              refine bodyPost_ret (v := .tuple #[.agg #[.bool s8, .slice C1 l1 g1, .slice C2 l2 g2], .int .i64 0]) (by simp [results, Tryz.results24, go_sem, z0, z1, z2]) rfl ?_
              rw [HP.out, hres]
              exact ⟨_, rfl, hvF, hqF⟩
        · rw [show allDB b = false from decide_eq_false hd2]
          have fz := hR4.frozen
          obtain ⟨r0, r1, r2⟩ := hR4.cells
          go_wp2_with fail
          have hv := nq_zero w4
          have hres : readR neg f b true p = ((6 : Int), (0 : Rat)) := if_pos (.inr ⟨rfl, hd2⟩)
          obtain ⟨z0, z1, z2, hvF, hqF⟩ := Nq.store hR4 hv hG4 (Nat.le_refl _)
          unfold put3 at z0 z1 z2 hvF hqF
          refine bodyPost_ret (v := .tuple #[.agg #[.bool false, .slice none 0 0, .slice none 0 0], .int .i64 6]) (by simp [results, Tryz.results24, go_sem, z0, z1, z2]) rfl ?_
          rw [HP.out, hres]
          exact ⟨_, rfl, hvF, hqF⟩
    · rw [show allDB f = false from decide_eq_false hd]
      have fz := hR3.frozen
      obtain ⟨r0, r1, r2⟩ := hR3.cells
      go_wp2_with fail
      have hv := nq_zero w3
      have hres : readR neg f b two p = ((6 : Int), (0 : Rat)) := if_pos (.inl hd)
      obtain ⟨z0, z1, z2, hvF, hqF⟩ := Nq.store hR3 hv hG3 (Nat.le_refl _)
      unfold put3 at z0 z1 z2 hvF hqF
      refine bodyPost_ret (v := .tuple #[.agg #[.bool false, .slice none 0 0, .slice none 0 0], .int .i64 6]) (by simp [results, Tryz.results24, go_sem, z0, z1, z2]) rfl ?_
      rw [HP.out, hres]
      exact ⟨_, rfl, hvF, hqF⟩
end Go.Proofs.YtimdddpfoagbjaaGreatDoor
namespace Go.Proofs.YtimdddpfoagbjaaGreatDoor
open Go.RowKit
open Ma Me
theorem Nq.top {w : World} {s : Bool} {t b : Value} {q : Rat} (h : Nq w (.agg #[.bool s, t, b]) q) : Nm w t q.num.natAbs := by
  obtain ⟨t2, b2, e, h1, h2⟩ := h
  cases e
  exact h1
theorem ret_sb {a : Value} {x y : Bool} (h : x = y) : Ending.returned (.tuple #[a, .bool x]) = .returned (.tuple #[a, .bool y]) := by rw [h]
theorem shortU_none {U : Nat} (h : 412 < (dec U).length) : shortU U = none := by
  unfold shortU
  have := dec_hi_len U h
  rw [if_pos (by omega)]
theorem shortS_of {u : Rat} {U : Nat} (_ : 0 ≤ u) (hd : u.den = 1) (hU : u.num.natAbs = U) : shortS u = shortU U := by
  unfold shortS
  rw [if_pos hd, hU]
def ShRes (o : Option (List UInt8)) (w : World) (e : Ending) (w' : World) : Prop := ∃ t : ByteArray, e = .returned (.tuple #[.string t, .bool o.isSome]) ∧ t.data.toList = o.getD [] ∧ Q w w'
theorem v_zeros12 (w : World) : Calls Tryz.prog 184 #[.string ⟨#[48]⟩, .int .i64 12] w fun e w' => ∃ z : ByteArray, e = .returned (.string z) ∧ z.data.toList = List.replicate 12 48 ∧ z.size = 12 ∧ Q w w' := by
  refine Calls.mono (Tryz.strings_Repeat_main ⟨#[48]⟩ 12 w (by decide) (by decide) (by decide) (by decide)) ?_
  rintro e w' ⟨h1, h2⟩
  exact ⟨_, h1, rfl, rfl, h2⟩
set_option maxRecDepth 100000 in
set_option maxHeartbeats 2000000 in
theorem q_shortDigits (x : Value) (p : Rat) (w : World) (hT : Tb w) (hx : Nq w x p) (h0 : 0 ≤ p) (hB : 200 * sz p + 50000 ≤ LIM) : Calls Tryz.prog 128 #[x] w (ShRes (shortS (p * tenQ 12)) w) := by
  obtain ⟨s1, A1, n1, c1, A2, n2, c2, rfl, E1, Z1, O1, hxt, hxb⟩ := hx.form
  obtain ⟨w0, hW, hG0, hX0⟩ := boxes1 w s1 (.slice A1 n1 c1) (.slice A2 n2 c2)
  have hz1 := sz_ten 12
  have hz2 := sz_mul p (tenQ 12)
  have hu0 : 0 ≤ p * tenQ 12 := Rat.mul_nonneg h0 (Rat.le_of_lt (tenQ_pos _))
  have hB1 : 16 * (sz p + sz (tenQ 12)) + 100 ≤ LIM := by rw [LIM_eq] at *; omega
  generalize hu : p * tenQ 12 = u at *
  have HU := Lib.hid hu; clear hu
  have hzu : 100 * dg W64 u.num.natAbs + 100 ≤ LIM := by have := sz_num u; rw [LIM_eq] at *; omega
  have HB := Lib.hid hB; clear hB hz1 h0
  obtain ⟨x0, x1, x2⟩ := hX0.cells
  go_enter Tryz.func128, Tryz.ntmps128
  go_wp2_with fail
  clear hW
  have c0 : ∀ W, Q w0 W → W.cell? ⟨w.heap.size, 0, none⟩ = some (.bool s1) := fun W h => (hX0.q h).cells.1
  have c1' : ∀ W, Q w0 W → W.cell? ⟨w.heap.size, 1, none⟩ = some (.slice A1 n1 c1) := fun W h => (hX0.q h).cells.2.1
  have c2' : ∀ W, Q w0 W → W.cell? ⟨w.heap.size, 2, none⟩ = some (.slice A2 n2 c2) := fun W h => (hX0.q h).cells.2.2
  clear x0 x1 x2
  go_region_held3 (fun W => Q w0 W) (first | with_reducible exact (Q.refl w0).drew | with_reducible exact hq1 | with_reducible exact hS2 | with_reducible exact ((Q.refl w0).alloc _).drew | with_reducible exact hq1.alloc _ | with_reducible exact hS2.alloc _ | with_reducible exact ((hS2.setCell hgE0 _).setCell hgE0 _).setCell hgE0 _) (first
    | (go_at_call 29; (with_reducible refine (q_Mul _ _ p (tenQ 12) w1 (hT.q hG1) (hx.q hG1) htv hB1).mono ?_); rintro e w2 ⟨uv, rfl, huv, hq2⟩; rw [HU.out] at huv; obtain ⟨s3, A3, n3, c3, A4, n4, c4, rfl, E3, Z3, O3, hut, hub⟩ := huv.form; have hG2 := hG1.trans hq2; have hS2 := hq1.trans hq2; first | (have hE2 := hE1.q hq2; have fz := hE2.frozen; obtain ⟨r0, r1, r2⟩ := hE2.cells) | skip)
    | (go_at_call 29; (with_reducible refine (q_Mul _ _ p (tenQ 12) _ (hT.q (hG1.alloc _)) (hx.q (hG1.alloc _)) (htv.q ((Q.refl _).alloc _)) hB1).mono ?_); rintro e w2 ⟨uv, rfl, huv, hq2d⟩; have hq2 : Q w1 w2 := ((Q.refl _).alloc _).trans hq2d; rw [HU.out] at huv; obtain ⟨s3, A3, n3, c3, A4, n4, c4, rfl, E3, Z3, O3, hut, hub⟩ := huv.form; have hG2 := hG1.trans hq2; have hS2 := hq1.trans hq2; have hE2 := (Nb.new w1 false (.slice none 0 0) (.slice none 0 0)).q hq2d; have hgE0 : w0.heap.size ≤ w1.heap.size := hq1.size; have hgE := Nat.le_trans hG0.size hgE0; have fz := hE2.frozen; obtain ⟨r0, r1, r2⟩ := hE2.cells)
    | (go_at_call 124; (with_reducible refine (q_tens 12 w0.drew (by decide)).mono ?_); rintro e w1 ⟨tv, rfl, htv, hq1d⟩; have hq1 : Q w0 w1 := (Q.refl w0).drew.trans hq1d; obtain ⟨s7, A7, n7, c7, A8, n8, c8, rfl, -⟩ := htv.form; have hG1 := hG0.trans hq1)
    | (go_at_call 124; (with_reducible refine (q_tens 12 (w0.alloc (.cells #[.bool false, .slice none 0 0, .slice none 0 0] 25)).drew (by decide)).mono ?_); rintro e w1 ⟨tv, rfl, htv, hq1d⟩; have hq1 : Q w0 w1 := ((Q.refl w0).alloc _).drew.trans hq1d; obtain ⟨s7, A7, n7, c7, A8, n8, c8, rfl, -⟩ := htv.form; have hG1 := hG0.trans hq1; have hE1 : Nb w1 w0.heap.size false (.slice none 0 0) (.slice none 0 0) := (Nb.new w0 false (.slice none 0 0) (.slice none 0 0)).q ((Q.refl _).drew.trans hq1d); have hgE0 : w0.heap.size ≤ w0.heap.size := Nat.le_refl _; have hgE := hG0.size))
  have hEE : Nb (w2.alloc (.cells #[.bool s3, .slice A3 n3 c3, .slice A4 n4 c4] 25)) w2.heap.size s3 (.slice A3 n3 c3) (.slice A4 n4 c4) := Nb.new w2 _ _ _
  have hGE := hG2.alloc (.cells #[.bool s3, .slice A3 n3 c3, .slice A4 n4 c4] 25)
  have huE := huv.q ((Q.refl w2).alloc (.cells #[.bool s3, .slice A3 n3 c3, .slice A4 n4 c4] 25))
  generalize w2.alloc (.cells #[.bool s3, .slice A3 n3 c3, .slice A4 n4 c4] 25) = wE at hEE hGE huE ⊢
  generalize w2.heap.size = gE at hEE ⊢
  rotate_left
  have hEE := hE2.put (s := s3) (t := .slice A3 n3 c3) (b := .slice A4 n4 c4)
  have hGE := put3_q (g := w1.heap.size) (s := s3) (t := .slice A3 n3 c3) (b := .slice A4 n4 c4) hG2 hgE
  have huE := Nq.apart (s' := s3) (t' := .slice A3 n3 c3) (b' := .slice A4 n4 c4) huv hE2
  unfold put3 at hEE hGE huE
  generalize ((w2.setCell ⟨w1.heap.size, 0, none⟩ (.bool s3)).setCell ⟨w1.heap.size, 1, none⟩ (.slice A3 n3 c3)).setCell ⟨w1.heap.size, 2, none⟩ (.slice A4 n4 c4) = wE at hEE hGE huE ⊢
  generalize w1.heap.size = gE at hEE ⊢
  rotate_left
  have hEE := hE2.put (s := s3) (t := .slice A3 n3 c3) (b := .slice A4 n4 c4)
  have hGE := put3_q (g := w0.heap.size) (s := s3) (t := .slice A3 n3 c3) (b := .slice A4 n4 c4) hG2 hgE
  have huE := Nq.apart (s' := s3) (t' := .slice A3 n3 c3) (b' := .slice A4 n4 c4) huv hE2
  unfold put3 at hEE hGE huE
  generalize ((w2.setCell ⟨w0.heap.size, 0, none⟩ (.bool s3)).setCell ⟨w0.heap.size, 1, none⟩ (.slice A3 n3 c3)).setCell ⟨w0.heap.size, 2, none⟩ (.slice A4 n4 c4) = wE at hEE hGE huE ⊢
  generalize w0.heap.size = gE at hEE ⊢
  rotate_left
  all_goals
    clear c0 c1' c2' hut hub huv
    have hut := huE.top
    obtain ⟨U, hU⟩ : ∃ U, u.num.natAbs = U := ⟨_, rfl⟩
    rw [hU] at hut hzu
    have HUU := Lib.hid hU; clear hU
    have hutE := hut
    obtain ⟨e0, e1, e2⟩ := hEE.cells
    go_wp2_with fail
    refine (q_whole _ u _ huE).mono ?_
    rintro e w11 ⟨rfl, hq11⟩
    have hG11 := hGE.trans hq11
    have hE11 := hEE.q hq11
    clear e0 e1 e2
    obtain ⟨e0, e1, e2⟩ := hE11.cells
    by_cases hd : u.den = 1
    · rw [decide_eq_true hd]
      have hS := shortS_of hu0 hd HUU.out
      have HS := Lib.hid hS; have HD := Lib.hid hd; clear hS hd
      go_wp2_with fail
      refine (v_countDigits _ U _ (hutE.q hq11) hzu).mono ?_
      rintro e w12 ⟨rfl, hq12⟩
      have hG12 := hG11.trans hq12
      have hE12 := hE11.q hq12
      clear e0 e1 e2
      obtain ⟨n, hn⟩ : ∃ n, (dec U).length = n := ⟨_, rfl⟩
      rw [hn]
      have HN := Lib.hid hn; clear hn
      by_cases hl : 412 < n
      · have hl2 : (412 : Int) < (n : Int) := by omega
        have hno : shortS u = none := by rw [HS.out]; exact shortU_none (by rw [HN.out]; exact hl)
        have HNO := Lib.hid hno; clear hno hl
        go_wp2_with fail
        go_ret2
        exact ⟨⟨#[]⟩, ret_sb (by rw [HNO.out]; rfl), by rw [HNO.out]; rfl, hG12⟩
      · have hl2 : ¬ (412 : Int) < (n : Int) := by omega
        have hn412 : n ≤ 412 := by omega
        have hdU : dg W64 U ≤ 1000000000 := by have := dg_dec U; rw [HN.out] at this; omega
        clear hl
        go_wp2_with fail
        obtain ⟨e0, e1, e2⟩ := hE12.cells
        refine wp_region_held_drew (S := fun W => W.cell? ⟨gE, 0, none⟩ = some (.bool s3) ∧ W.cell? ⟨gE, 1, none⟩ = some (.slice A3 n3 c3) ∧ W.cell? ⟨gE, 2, none⟩ = some (.slice A4 n4 c4)) (by kernel_rfl) (by exact ⟨e0, e1, e2⟩) (fun hHeld => ?_)
        refine wpAnyH_take (i := 1) (v := ?_) rfl (by kernel_rfl) (by kernel_rfl) (by kernel_rfl) (fun _ _ _ h => h) (Or.inl ⟨by rfl, ?_⟩) (by assumption) ?_
        rotate_left
        · intro W hSw
          (try dsimp only at hSw)
          go_simp
          try (with_reducible rfl)
        try simp only [Act.put]
        try simp only [List.setIfInBounds_toArray]
        try simp only [List.set_cons_zero, List.set_cons_succ]
        refine wpAnyH_take (i := 2) (v := ?_) rfl (by kernel_rfl) (by kernel_rfl) (by kernel_rfl) (fun _ _ _ h => h) (Or.inl ⟨by rfl, ?_⟩) (by assumption) ?_
        rotate_left
        · intro W hSw
          (try dsimp only at hSw)
          go_simp
          try (with_reducible rfl)
        try simp only [Act.put]
        try simp only [List.setIfInBounds_toArray]
        try simp only [List.set_cons_zero, List.set_cons_succ]
        refine wpAnyH_ready (rs := [0]) (by kernel_rfl) (by decide) (AllReadyH.cons rfl (fun K hK => ?_) AllReadyH.nil)
        go_simp
        (with_reducible refine (v_zeros12 _).mono ?_)
        rintro e w13 ⟨z, rfl, hz, hz12, hq13d⟩
        have hq13 : Q w12 w13 := (Q.refl w12).drew.trans hq13d
        have hG13 := hG12.trans hq13
        have hE13 := hE12.q hq13
        obtain ⟨e0, e1, e2⟩ := hE13.cells
        have HZ := Lib.hid hz
        clear hz
        have HZ12 := Lib.hid hz12
        have hz13 := Nat.le_of_eq hz12
        clear hz12
        go_wp2_with fail
        refine hK.out _ _ (by exact ⟨by assumption, by assumption, by assumption⟩) (fun hHeld => ?_)
        clear hK K
        try simp only [Act.put]
        try simp only [List.setIfInBounds_toArray]
        try simp only [List.set_cons_zero, List.set_cons_succ]
        refine wpAnyH_ready (rs := [3]) (by kernel_rfl) (by decide) (AllReadyH.cons rfl (fun K hK => ?_) AllReadyH.nil)
        go_simp
        (with_reducible refine (v_toDigits _ U _ ((hutE.q (hq11.trans hq12)).q hq13) hdU).mono ?_)
        rintro e w14 ⟨tb, rfl, htb, hq14⟩
        have hG14 := hG13.trans hq14
        have hE14 := hE13.q hq14
        obtain ⟨e0, e1, e2⟩ := hE14.cells
        have htn : tb.size = n := (Lib.size_eq tb).trans ((congrArg List.length htb).trans HN.out)
        have htn2 : tb.size ≤ 412 := (by omega)
        have HTB := Lib.hid htb
        have HTN := Lib.hid htn
        clear htb htn
        go_wp2_with fail
        refine hK.out _ _ (by exact ⟨by assumption, by assumption, by assumption⟩) (fun hHeld => ?_)
        clear hK K
        try simp only [Act.put]
        try simp only [List.setIfInBounds_toArray]
        try simp only [List.set_cons_zero, List.set_cons_succ]
        refine wpAnyH_ready (rs := [4]) (by kernel_rfl) (by decide) (AllReadyH.cons rfl (fun K hK => ?_) AllReadyH.nil)
        go_simp
        rw [if_neg (by omega)]
        go_simp
        refine hK.out _ _ (by exact ⟨by assumption, by assumption, by assumption⟩) (fun hHeld => ?_)
        clear hK K
        try simp only [Act.put]
        try simp only [List.setIfInBounds_toArray]
        try simp only [List.set_cons_zero, List.set_cons_succ]
        refine wpAnyH_take (i := 5) (v := ?_) rfl (by kernel_rfl) (by kernel_rfl) (by kernel_rfl) (fun _ _ _ h => h) (Or.inl ⟨by rfl, ?_⟩) (by assumption) ?_
        rotate_left
        · intro W hSw
          (try dsimp only at hSw)
          go_simp
          try (with_reducible rfl)
        try simp only [Act.put]
        try simp only [List.setIfInBounds_toArray]
        try simp only [List.set_cons_zero, List.set_cons_succ]
        refine wpAnyH_done (by kernel_rfl) ?_ _
        all_goals
          obtain ⟨sa1, sa2⟩ := short_all U
          rw [HN.out] at sa1 sa2
          have hal : (z ++ tb).data.toList = List.replicate 12 48 ++ dec U := by rw [cat_list, HZ.out, HTB.out]
          have has : (z ++ tb).size = 12 + n := by rw [ByteArray.size_append, HZ12.out, HTN.out]
          rw [← hal] at sa1 sa2
          clear hal
          generalize z ++ tb = al at *
          have hpt : (al.size : Int) - 12 = (n : Int) := by omega
          have q1 : (0 : Int) ≤ (n : Int) := by omega
          have q2 : (n : Int) ≤ (al.size : Int) := by omega
          have q3 : al.size ≤ 424 := by omega
          have hex1 : (al.extract 0 n).data.toList = al.data.toList.take n := by rw [Lib.extract_data]; simp
          have hex2 : (al.extract n al.size).data.toList = al.data.toList.drop n := Lib.extract_to_end _ _
          have hxs : (al.extract n al.size).size ≤ 9223372036854775807 := by rw [Lib.size_eq, hex2, List.length_drop, ← Lib.size_eq]; omega
          obtain ⟨fa, hfa⟩ : ∃ fa : ByteArray, ⟨(Lib.trimLeftB (al.extract 0 n).data.toList 48).toArray⟩ = fa := ⟨_, rfl⟩
          obtain ⟨fb, hfb⟩ : ∃ fb : ByteArray, ⟨(Lib.trimRightB (al.extract n al.size).data.toList 48).toArray⟩ = fb := ⟨_, rfl⟩
          have la : fa.data.toList = if U / 1000000000000 = 0 then [] else dec (U / 1000000000000) := by rw [← hfa, ← sa2, ← hex1]; rfl
          have lb : fb.data.toList = rtrim (pd 12 (U % 1000000000000)) := by rw [← hfb, ← sa1, ← hex2]; rfl
          have hsh := shortU_of la lb
          rw [← HS.out] at hsh
          have hLC : ∀ W : World, Calls Tryz.prog 185 #[.string (al.extract 0 n), .string ⟨#[48]⟩] W fun e w' => e = .returned (.string fa) ∧ w' = W := fun W => by have h := Tryz.strings_TrimLeft_one (al.extract 0 n) 48 (by decide) W; rw [hfa] at h; exact h
          have hRC : ∀ W : World, Calls Tryz.prog 186 #[.string (al.extract n al.size), .string ⟨#[48]⟩] W fun e w' => e = .returned (.string fb) ∧ w' = W := fun W => by have h := Tryz.strings_TrimRight_one (al.extract n al.size) 48 (by decide) W hxs; rw [hfb] at h; exact h
          have HLC := Lib.hid hLC; have HRC := Lib.hid hRC; clear hLC hRC
          have fl1 : fa.size ≤ 424 := by rw [← hfa, Lib.size_eq, toList_mk]; exact Nat.le_trans (List.dropWhile_sublist _).length_le (by rw [hex1, List.length_take, ← Lib.size_eq]; omega)
          have fl2 : fb.size ≤ 424 := by rw [← hfb, Lib.size_eq, toList_mk]; unfold Lib.trimRightB; rw [List.length_reverse]; exact Nat.le_trans (List.dropWhile_sublist _).length_le (by rw [List.length_reverse, hex2, List.length_drop, ← Lib.size_eq]; omega)
          have ta := ByteArray.toList_eq fa
          have tbb := ByteArray.toList_eq fb
          have sza := Lib.size_eq fa
          have szb := Lib.size_eq fb
          generalize hfl : fa.data.toList = f at *
          generalize hbl : fb.data.toList = bb at *
          have HFA := Lib.hid hfa; have HFB := Lib.hid hfb; have HSH := Lib.hid hsh; have HFL := Lib.hid hfl; have HBL := Lib.hid hbl; have TA := Lib.hid ta; have TB2 := Lib.hid tbb; have SZA := Lib.hid sza; have SZB := Lib.hid szb
          clear hfa hfb hsh hfl hbl ta tbb sza szb sa1 sa2 la lb hex1 hex2 has
          go_wp2_with fail
          go_quiet ((first | (go_at_call 185; exact Calls.quiet_of_same (HLC.out _)) | (go_at_call 186; exact Calls.quiet_of_same (HRC.out _))))
          by_cases hf0 : f = []
          · have faa : fa.toList = [] := TA.out.trans hf0
            have fab : (fa.toList == []) = true := by rw [faa]; rfl
            have fac : fa.toList.isEmpty = true := by rw [faa]; rfl
            have hsh2 : shortS u = if 400 < ([48] : List UInt8).length + bb.length then none else some ([48] ++ if bb = [] then [] else 46 :: bb) := by have h := HSH.out; rw [if_pos hf0] at h; exact h
            have HS2 := Lib.hid hsh2; clear hsh2
            have HF0 := Lib.hid hf0; clear hf0
            by_cases hll : 400 < ([48] : List UInt8).length + bb.length
            · have hl4 : (400 : Int) < (1 : Int) + (fb.size : Int) := by rw [SZB.out]; simp at hll; omega
              have hno : shortS u = none := by rw [HS2.out, if_pos hll]
              have HNO := Lib.hid hno; clear hno hll
              go_wp2_with fail
              go_ret2
              exact ⟨⟨#[]⟩, ret_sb (by rw [HNO.out]; rfl), by rw [HNO.out]; rfl, hG14.drewN _⟩
            · have hl4 : ¬ (400 : Int) < (1 : Int) + (fb.size : Int) := by rw [SZB.out]; simp at hll; omega
              by_cases hb0 : bb = []
              · have fba : fb.toList = [] := TB2.out.trans hb0
                have fbb : (fb.toList == []) = true := by rw [fba]; rfl
                have fbc : fb.toList.isEmpty = true := by rw [fba]; rfl
                have hsome : shortS u = some ([48] ++ []) := by rw [HS2.out, if_neg hll, if_pos hb0]
                have HSO := Lib.hid hsome; clear hsome hll hb0
                go_wp2_with fail
                go_ret2
                exact ⟨⟨#[48]⟩, ret_sb (by rw [HSO.out]; rfl), by rw [HSO.out]; simp, hG14.drewN _⟩
              · have fba : ¬ fb.toList = [] := fun h => hb0 (TB2.out.symm.trans h)
                have fbb : (fb.toList == []) = false := beq_eq_false_iff_ne.2 fba
                have fbc : fb.toList.isEmpty = false := by cases hx : fb.toList with | nil => exact absurd hx fba | cons _ _ => rfl
                have hsome : shortS u = some ([48] ++ 46 :: bb) := by rw [HS2.out, if_neg hll, if_neg hb0]
                have HSO := Lib.hid hsome; clear hsome hll hb0
                go_wp2_with fail
                go_ret2
                exact ⟨⟨#[48]⟩ ++ ⟨#[46]⟩ ++ fb, ret_sb (by rw [HSO.out]; rfl), by rw [HSO.out, cat_list, cat_list, HBL.out]; simp, hG14.drewN _⟩
          · have faa : ¬ fa.toList = [] := fun h => hf0 (TA.out.symm.trans h)
            have fab : (fa.toList == []) = false := beq_eq_false_iff_ne.2 faa
            have fac : fa.toList.isEmpty = false := by cases hx : fa.toList with | nil => exact absurd hx faa | cons _ _ => rfl
            have hsh2 : shortS u = if 400 < (f : List UInt8).length + bb.length then none else some (f ++ if bb = [] then [] else 46 :: bb) := by have h := HSH.out; rw [if_neg hf0] at h; exact h
            have HS2 := Lib.hid hsh2; clear hsh2
            have HF0 := Lib.hid hf0; clear hf0
            by_cases hll : 400 < (f : List UInt8).length + bb.length
            · have hl4 : (400 : Int) < (fa.size : Int) + (fb.size : Int) := by rw [SZB.out, SZA.out]; omega
              have hno : shortS u = none := by rw [HS2.out, if_pos hll]
              have HNO := Lib.hid hno; clear hno hll
              go_wp2_with fail
              go_ret2
              exact ⟨⟨#[]⟩, ret_sb (by rw [HNO.out]; rfl), by rw [HNO.out]; rfl, hG14.drewN _⟩
            · have hl4 : ¬ (400 : Int) < (fa.size : Int) + (fb.size : Int) := by rw [SZB.out, SZA.out]; omega
              by_cases hb0 : bb = []
              · have fba : fb.toList = [] := TB2.out.trans hb0
                have fbb : (fb.toList == []) = true := by rw [fba]; rfl
                have fbc : fb.toList.isEmpty = true := by rw [fba]; rfl
                have hsome : shortS u = some (f ++ []) := by rw [HS2.out, if_neg hll, if_pos hb0]
                have HSO := Lib.hid hsome; clear hsome hll hb0
                go_wp2_with fail
                go_ret2
                exact ⟨fa, ret_sb (by rw [HSO.out]; rfl), by rw [HSO.out]; simp; exact HFL.out, hG14.drewN _⟩
              · have fba : ¬ fb.toList = [] := fun h => hb0 (TB2.out.symm.trans h)
                have fbb : (fb.toList == []) = false := beq_eq_false_iff_ne.2 fba
                have fbc : fb.toList.isEmpty = false := by cases hx : fb.toList with | nil => exact absurd hx fba | cons _ _ => rfl
                have hsome : shortS u = some (f ++ 46 :: bb) := by rw [HS2.out, if_neg hll, if_neg hb0]
                have HSO := Lib.hid hsome; clear hsome hll hb0
                go_wp2_with fail
                go_ret2
                exact ⟨fa ++ ⟨#[46]⟩ ++ fb, ret_sb (by rw [HSO.out]; rfl), by rw [HSO.out, cat_list, cat_list, HBL.out, HFL.out]; simp, hG14.drewN _⟩
    · rw [decide_eq_false hd]
      have hno : shortS u = none := if_neg hd
      have HNO := Lib.hid hno; clear hno hd
      go_wp2_with fail
      go_ret2
      exact ⟨⟨#[]⟩, ret_sb (by rw [HNO.out]; rfl), by rw [HNO.out]; rfl, hG11⟩
end Go.Proofs.YtimdddpfoagbjaaGreatDoor
namespace Go.Proofs.YtimdddpfoagbjaaGreatDoor
open Go.RowKit
open Ma Me
theorem letter_len (i : Nat) : (letter i).length ≤ 1 := by
  unfold letter
  rcases Nat.lt_or_ge i 10 with h | h
  · rcases (by omega : i = 0 ∨ i = 1 ∨ i = 2 ∨ i = 3 ∨ i = 4 ∨ i = 5 ∨ i = 6 ∨ i = 7 ∨ i = 8 ∨ i = 9) with rfl | rfl | rfl | rfl | rfl | rfl | rfl | rfl | rfl | rfl <;> decide
  · rw [List.getElem?_eq_none (by simpa using h)]; decide
theorem short_len {u : Rat} {o : Option (List UInt8)} (h : shortS u = o) : ∀ d, o = some d → d.length ≤ 401 := by
  intro d hd
  subst hd
  unfold shortS at h
  split at h
  · unfold shortU at h
    split at h
    · cases h
    · rename_i hl
      have e := Option.some.inj h
      rw [← e, List.length_append]
      split
      · simp; omega
      · rw [List.length_cons]; omega
  · cases h
set_option maxRecDepth 100000 in
set_option maxHeartbeats 2000000 in
theorem q_Show (x : Value) (p : Rat) (w : World) (hT : Tb w) (hPx : Px w) (hx : Nq w x p) (hB : 2000 * sz p + 500000 ≤ LIM) : Calls Tryz.prog 27 #[x] w fun e w' => ∃ t : ByteArray, e = .returned (.string t) ∧ t.data.toList = showQ p ∧ Q w w' := by
  obtain ⟨s1, A1, n1, c1, A2, n2, c2, rfl, E1, Z1, O1, hxt, hxb⟩ := hx.form
  obtain ⟨w0, hW, hG0, hX0⟩ := boxes1 w s1 (.slice A1 n1 c1) (.slice A2 n2 c2)
  have HB := Lib.hid hB; clear hB
  by_cases hp0 : p = 0
  · have k0 : ((n1 : Int) == 0) = true := by rw [Z1.out.2 hp0]; rfl
    have HS : Hid (showQ p = [48]) := if_pos hp0
    clear hp0
    obtain ⟨x0, x1, x2⟩ := hX0.cells
    go_enter Tryz.func27, Tryz.ntmps27
    go_wp2_with fail
    go_ret
    exact ⟨⟨#[48]⟩, rfl, HS.out.symm, hG0⟩
  · have k0 : ((n1 : Int) == 0) = false := beq_eq_false_iff_ne.2 (fun h => hp0 (Z1.out.1 (by omega)))
    obtain ⟨i, hi⟩ : ∃ i, pIdx (absQ p) 10 = i := ⟨_, rfl⟩
    have hi10 := pIdx_lt (absQ p) 10 (by decide)
    rw [hi] at hi10
    obtain ⟨pw10, hpw⟩ : ∃ z : Int, pxPow i = z := ⟨_, rfl⟩
    obtain ⟨pl, hpl⟩ : ∃ b, pxLet i = b := ⟨_, rfl⟩
    have hpl2 : pl.data.toList = letter i := by rw [← hpl]; rfl
    have hplz : pl.size ≤ 1 := by rw [Lib.size_eq, hpl2]; exact letter_len i
    have hpb : -15 ≤ pw10 ∧ pw10 ≤ 15 := by rw [← hpw]; unfold pxPow; omega
    have hpb1 := hpb.1; have hpb2 := hpb.2; clear hpb
    have hun : unitsQ p = absQ p * tenQ (-pw10) * tenQ 12 := by unfold unitsQ; rw [hi, ← hpw]; unfold pxPow; congr 2; congr 1; omega
    have hsh : showQ p = match shortS (unitsQ p) with | some d => signT p ++ d ++ letter i | none => textQ p := by unfold showQ; rw [if_neg hp0, hi]; cases shortS (unitsQ p) <;> rfl
    obtain ⟨o, ho⟩ : ∃ o, shortS (unitsQ p) = o := ⟨_, rfl⟩
    rw [ho] at hsh
    rw [hun] at ho
    have hol := short_len ho
    have hzt := sz_ten (-pw10)
    have hzm := sz_mul (absQ p) (tenQ (-pw10))
    have hza := sz_abs p
    have hBm : 16 * (sz (absQ p) + sz (tenQ (-pw10))) + 100 ≤ LIM := by have := HB.out; rw [LIM_eq] at *; omega
    have hBs : 200 * sz (absQ p * tenQ (-pw10)) + 50000 ≤ LIM := by have := HB.out; rw [LIM_eq] at *; omega
    have hBp : 64 * sz (absQ p) + 2000 ≤ LIM := by have := HB.out; rw [LIM_eq] at *; omega
    have hBt : sz p ≤ 1000000000 := by have := HB.out; rw [LIM_eq] at *; omega
    have hnn : 0 ≤ absQ p * tenQ (-pw10) := Rat.mul_nonneg (by unfold absQ; split <;> grind) (Rat.le_of_lt (tenQ_pos _))
    have hm1 : (-pw10).natAbs ≤ 1000000 := by omega
    have HI := Lib.hid hi; clear hi
    have HPW := Lib.hid hpw; clear hpw
    have HPL := Lib.hid hpl; clear hpl
    have HPL2 := Lib.hid hpl2; clear hpl2
    have HSH := Lib.hid hsh; clear hsh
    have HO := Lib.hid ho; clear ho
    have HOL := Lib.hid hol; clear hol
    have HP0 := Lib.hid hp0; clear hp0
    have HNN := Lib.hid hnn; clear hnn
    clear hun hzt hzm hza
    obtain ⟨x0, x1, x2⟩ := hX0.cells
    go_enter Tryz.func27, Tryz.ntmps27
    go_wp2_with fail
    clear hW k0
    refine (q_size _ p _ (hx.q hG0)).mono ?_
    rintro e w1 ⟨v1, rfl, hv1, hq1⟩
    have hG1 := hG0.trans hq1
    have hX1 := hX0.q hq1
    clear x0 x1 x2
    obtain ⟨s5, A5, n5, c5, A6, n6, c6, rfl, -⟩ := hv1.form
    go_wp2_with fail
    refine (q_prefixOf _ (absQ p) _ (hPx.q hG1) hv1 hBp).mono ?_
    rintro e w2 ⟨rfl, hq2⟩
    have hG2 := hG1.trans hq2
    have hX2 := hX1.q hq2
    obtain ⟨x0, x1, x2⟩ := hX2.cells
    rw [HI.out, HPW.out, HPL.out]
    go_wp2_with fail
    refine (q_size _ p _ (hx.q hG2)).mono ?_
    rintro e w3 ⟨v2, rfl, hv2, hq3⟩
    have hG3 := hG2.trans hq3
    have hX3 := hX2.q hq3
    clear x0 x1 x2
    obtain ⟨x0, x1, x2⟩ := hX3.cells
    obtain ⟨s7, A7, n7, c7, A8, n8, c8, rfl, -⟩ := hv2.form
    go_wp2_with fail
    refine (q_tens (-pw10) _ hm1).mono ?_
    rintro e w4 ⟨v3, rfl, hv3, hq4⟩
    have hG4 := hG3.trans hq4
    have hX4 := hX3.q hq4
    clear x0 x1 x2
    obtain ⟨x0, x1, x2⟩ := hX4.cells
    obtain ⟨s9, A9, n9, c9, A10, n10, c10, rfl, -⟩ := hv3.form
    go_wp2_with fail
    refine (q_Mul _ _ (absQ p) (tenQ (-pw10)) _ (hT.q hG4) (hv2.q hq4) hv3 hBm).mono ?_
    rintro e w5 ⟨v4, rfl, hv4, hq5⟩
    have hG5 := hG4.trans hq5
    have hX5 := hX4.q hq5
    clear x0 x1 x2
    obtain ⟨x0, x1, x2⟩ := hX5.cells
    obtain ⟨s11, A11, n11, c11, A12, n12, c12, rfl, -⟩ := hv4.form
    go_wp2_with fail
    refine (q_shortDigits _ (absQ p * tenQ (-pw10)) _ (hT.q hG5) hv4 HNN.out hBs).mono ?_
    rintro e w6 ⟨td, rfl, htd, hq6⟩
    have hG6 := hG5.trans hq6
    have hX6 := hX5.q hq6
    clear x0 x1 x2
    obtain ⟨x0, x1, x2⟩ := hX6.cells
    rw [HO.out] at htd ⊢
    cases o with
    | none =>
      have hR : showQ p = textQ p := HSH.out
      have HR := Lib.hid hR; clear hR
      go_wp2_with fail
      refine (q_Text _ p _ (hx.q hG6) hBt).mono ?_
      rintro e w7 ⟨tt, rfl, htt, hq7⟩
      have hG7 := hG6.trans hq7
      have hX7 := hX6.q hq7
      clear x0 x1 x2
      have HTT := Lib.hid htt; clear htt
      go_wp2_with fail
      go_ret
      exact ⟨tt, rfl, HTT.out.trans HR.out.symm, hG7⟩
    | some d =>
      have hR : showQ p = signT p ++ d ++ letter i := HSH.out
      have HR := Lib.hid hR; clear hR
      have htd2 : td.data.toList = d := htd
      have htz : td.size ≤ 401 := by rw [Lib.size_eq, htd2]; exact HOL.out d rfl
      have HTD := Lib.hid htd2; clear htd htd2
      go_wp2_with fail
      refine (q_signText _ p _ (hx.q hG6)).mono ?_
      rintro e w7 ⟨ts, rfl, hts, hq7⟩
      have hG7 := hG6.trans hq7
      have hX7 := hX6.q hq7
      clear x0 x1 x2
      have hsz1 := sign_size hts
      have HTS := Lib.hid hts; clear hts
      go_wp2_with fail
      go_ret
      exact ⟨_, rfl, by rw [cat_list, cat_list, HTS.out, HTD.out, HPL2.out, HR.out], hG7⟩
end Go.Proofs.YtimdddpfoagbjaaGreatDoor
