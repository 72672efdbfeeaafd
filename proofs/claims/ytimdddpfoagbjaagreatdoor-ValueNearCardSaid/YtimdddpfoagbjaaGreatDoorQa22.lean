/- Laws of values (P1.7, P1.8), each for every three strings; no condition. Part of the proof: texts Vg1 Ja1 Jb1. -/
import Derived.Deep.RegionHeld
import Derived.Test.YtimdddpfoagbjaaGreatDoorQa21
namespace Go.Proofs.YtimdddpfoagbjaaGreatDoor
open Go.RowKit
open Ma Me
def Ns (w : World) (v : Value) (p q : Rat) : Prop := ∃ s1 A1 n1 c1 A2 n2 c2 s2 A3 n3 c3 A4 n4 c4, v = .agg #[.bool s1, .slice A1 n1 c1, .slice A2 n2 c2, .bool s2, .slice A3 n3 c3, .slice A4 n4 c4] ∧
  Nq w (.agg #[.bool s1, .slice A1 n1 c1, .slice A2 n2 c2]) p ∧ Nq w (.agg #[.bool s2, .slice A3 n3 c3, .slice A4 n4 c4]) q
theorem Ns.q {w w' : World} {v : Value} {p q : Rat} (h : Ns w v p q) (hq : Q w w') : Ns w' v p q := by
  obtain ⟨s1, A1, n1, c1, A2, n2, c2, s2, A3, n3, c3, A4, n4, c4, e, h1, h2⟩ := h
  exact ⟨s1, A1, n1, c1, A2, n2, c2, s2, A3, n3, c3, A4, n4, c4, e, h1.q hq, h2.q hq⟩
def Sp (w : World) (g : Nat) (s1 : Bool) (t1 b1 : Value) (s2 : Bool) (t2 b2 : Value) : Prop := w.heap[g]? = some (.cells #[.bool s1, t1, b1, .bool s2, t2, b2] 70 (0, 0))
section
variable {w w' : World} {g : Nat} {s1 s2 : Bool} {t1 b1 t2 b2 : Value}
theorem Sp.cells (h : Sp w g s1 t1 b1 s2 t2 b2) : w.cell? ⟨g, 0, none⟩ = some (.bool s1) ∧ w.cell? ⟨g, 1, none⟩ = some t1 ∧ w.cell? ⟨g, 2, none⟩ = some b1 ∧ w.cell? ⟨g, 3, none⟩ = some (.bool s2) ∧ w.cell? ⟨g, 4, none⟩ = some t2 ∧ w.cell? ⟨g, 5, none⟩ = some b2 := by
  unfold Sp at h
  refine ⟨?_, ?_, ?_, ?_, ?_, ?_⟩ <;> simp [World.cell?, h]
theorem Sp.frozen (h : Sp w g s1 t1 b1 s2 t2 b2) (i : Nat) : w.frozen? ⟨g, i, none⟩ = false := by
  unfold Sp at h
  simp [World.frozen?, h]
theorem Sp.lt (h : Sp w g s1 t1 b1 s2 t2 b2) : g < w.heap.size := by
  rcases Nat.lt_or_ge g w.heap.size with hlt | hge
  · exact hlt
  · unfold Sp at h; rw [Array.getElem?_eq_none hge] at h; cases h
theorem Sp.q (h : Sp w g s1 t1 b1 s2 t2 b2) (hq : Q w w') : Sp w' g s1 t1 b1 s2 t2 b2 := (hq.heap h.lt).trans h
theorem Sp.new (w : World) (s1 : Bool) (t1 b1 : Value) (s2 : Bool) (t2 b2 : Value) : Sp (w.alloc (.cells #[.bool s1, t1, b1, .bool s2, t2, b2] 70)) w.heap.size s1 t1 b1 s2 t2 b2 := heap_alloc_new w _
end
def put6 (w : World) (g : Nat) (s1 : Bool) (t1 b1 : Value) (s2 : Bool) (t2 b2 : Value) : World :=
  (((((w.setCell ⟨g, 0, none⟩ (.bool s1)).setCell ⟨g, 1, none⟩ t1).setCell ⟨g, 2, none⟩ b1).setCell ⟨g, 3, none⟩ (.bool s2)).setCell ⟨g, 4, none⟩ t2).setCell ⟨g, 5, none⟩ b2
theorem Sp.put {w : World} {g : Nat} {s1 s2 s1' s2' : Bool} {t1 b1 t2 b2 t1' b1' t2' b2' : Value} (h : Sp w g s1' t1' b1' s2' t2' b2') : Sp (put6 w g s1 t1 b1 s2 t2 b2) g s1 t1 b1 s2 t2 b2 := by
  unfold Sp at h ⊢
  unfold put6
  simp [World.setCell, Array.getElem?_modify, h]
theorem put6_q {a w : World} {g : Nat} {s1 s2 : Bool} {t1 b1 t2 b2 : Value} (h : Q a w) (hg : a.heap.size ≤ g) : Q a (put6 w g s1 t1 b1 s2 t2 b2) :=
  (((((h.setCell (p := ⟨g, 0, none⟩) hg _).setCell (p := ⟨g, 1, none⟩) hg _).setCell (p := ⟨g, 2, none⟩) hg _).setCell (p := ⟨g, 3, none⟩) hg _).setCell (p := ⟨g, 4, none⟩) hg _).setCell (p := ⟨g, 5, none⟩) hg _
theorem put6_heap {w : World} {g k : Nat} {s1 s2 : Bool} {t1 b1 t2 b2 : Value} (h : k ≠ g) : (put6 w g s1 t1 b1 s2 t2 b2).heap[k]? = w.heap[k]? := by
  unfold put6
  rw [Below.heap_setCell _ _ _ _ h, Below.heap_setCell _ _ _ _ h, Below.heap_setCell _ _ _ _ h, Below.heap_setCell _ _ _ _ h, Below.heap_setCell _ _ _ _ h, Below.heap_setCell _ _ _ _ h]
theorem put6_size {w : World} {g : Nat} {s1 s2 : Bool} {t1 b1 t2 b2 : Value} : (put6 w g s1 t1 b1 s2 t2 b2).heap.size = w.heap.size := by
  unfold put6; simp
theorem Sp.no_word {w : World} {g o : Nat} {s1 s2 : Bool} {A1 A2 A3 A4 : Option Addr} {n1 c1 n2 c2 n3 c3 n4 c4 : Nat} {d : Int} (hb : Sp w g s1 (.slice A1 n1 c1) (.slice A2 n2 c2) s2 (.slice A3 n3 c3) (.slice A4 n4 c4)) : w.cell? ⟨g, o, none⟩ ≠ some (.int .u64 d) := by
  unfold Sp at hb
  intro h6
  simp only [World.cell?, hb] at h6
  rcases o with _ | _ | _ | _ | _ | _ | o <;> simp at h6
theorem Me.Nm.put6 {w : World} {x : Value} {N g : Nat} {s1 s2 s1' s2' : Bool} {A1 A2 A3 A4 : Option Addr} {n1 c1 n2 c2 n3 c3 n4 c4 : Nat} {t1' b1' t2' b2' : Value} (h : Nm w x N) (hb : Sp w g s1 (.slice A1 n1 c1) (.slice A2 n2 c2) s2 (.slice A3 n3 c3) (.slice A4 n4 c4)) : Nm (put6 w g s1' t1' b1' s2' t2' b2') x N := by
  obtain ⟨A, c, ws, rfl, h2, h3, h4, h5⟩ := h
  refine ⟨A, c, ws, rfl, h2, fun hn => ?_, h4, h5⟩
  obtain ⟨bl, o, rfl, hlt, hc⟩ := h3 hn
  have hne : bl ≠ g := by
    rintro rfl
    exact hb.no_word (hc 0 _ (List.getElem?_eq_getElem hn))
  refine ⟨bl, o, rfl, by rw [put6_size]; exact hlt, fun j d hd => ?_⟩
  have := hc j d hd
  unfold World.cell? at this ⊢
  rw [put6_heap hne]
  exact this
theorem Nq.apart6 {w : World} {v : Value} {q : Rat} {g : Nat} {s1 s2 s1' s2' : Bool} {A1 A2 A3 A4 : Option Addr} {n1 c1 n2 c2 n3 c3 n4 c4 : Nat} {t1' b1' t2' b2' : Value} (h : Nq w v q) (hb : Sp w g s1 (.slice A1 n1 c1) (.slice A2 n2 c2) s2 (.slice A3 n3 c3) (.slice A4 n4 c4)) : Nq (put6 w g s1' t1' b1' s2' t2' b2') v q := by
  obtain ⟨t, b, h1, h2, h3⟩ := h
  exact ⟨t, b, h1, h2.put6 hb, h3.put6 hb⟩
theorem Ns.store {a w : World} {g : Nat} {s1 s2 s1' s2' : Bool} {A1 A2 A3 A4 B1 B2 B3 B4 : Option Addr} {n1 c1 n2 c2 n3 c3 n4 c4 m1 d1 m2 d2 m3 d3 m4 d4 : Nat} {p q : Rat} (hr : Sp w g s1' (.slice B1 m1 d1) (.slice B2 m2 d2) s2' (.slice B3 m3 d3) (.slice B4 m4 d4))
    (hlo : Nq w (.agg #[.bool s1, .slice A1 n1 c1, .slice A2 n2 c2]) p) (hhi : Nq w (.agg #[.bool s2, .slice A3 n3 c3, .slice A4 n4 c4]) q) (hq : Q a w) (hg : a.heap.size ≤ g) :
    (put6 w g s1 (.slice A1 n1 c1) (.slice A2 n2 c2) s2 (.slice A3 n3 c3) (.slice A4 n4 c4)).cell? ⟨g, 0, none⟩ = some (.bool s1) ∧ (put6 w g s1 (.slice A1 n1 c1) (.slice A2 n2 c2) s2 (.slice A3 n3 c3) (.slice A4 n4 c4)).cell? ⟨g, 1, none⟩ = some (.slice A1 n1 c1) ∧
    (put6 w g s1 (.slice A1 n1 c1) (.slice A2 n2 c2) s2 (.slice A3 n3 c3) (.slice A4 n4 c4)).cell? ⟨g, 2, none⟩ = some (.slice A2 n2 c2) ∧ (put6 w g s1 (.slice A1 n1 c1) (.slice A2 n2 c2) s2 (.slice A3 n3 c3) (.slice A4 n4 c4)).cell? ⟨g, 3, none⟩ = some (.bool s2) ∧
    (put6 w g s1 (.slice A1 n1 c1) (.slice A2 n2 c2) s2 (.slice A3 n3 c3) (.slice A4 n4 c4)).cell? ⟨g, 4, none⟩ = some (.slice A3 n3 c3) ∧ (put6 w g s1 (.slice A1 n1 c1) (.slice A2 n2 c2) s2 (.slice A3 n3 c3) (.slice A4 n4 c4)).cell? ⟨g, 5, none⟩ = some (.slice A4 n4 c4) ∧
    Ns (put6 w g s1 (.slice A1 n1 c1) (.slice A2 n2 c2) s2 (.slice A3 n3 c3) (.slice A4 n4 c4)) (.agg #[.bool s1, .slice A1 n1 c1, .slice A2 n2 c2, .bool s2, .slice A3 n3 c3, .slice A4 n4 c4]) p q ∧ Q a (put6 w g s1 (.slice A1 n1 c1) (.slice A2 n2 c2) s2 (.slice A3 n3 c3) (.slice A4 n4 c4)) := by
  obtain ⟨r0, r1, r2, r3, r4, r5⟩ := (hr.put (s1 := s1) (t1 := .slice A1 n1 c1) (b1 := .slice A2 n2 c2) (s2 := s2) (t2 := .slice A3 n3 c3) (b2 := .slice A4 n4 c4)).cells
  exact ⟨r0, r1, r2, r3, r4, r5, ⟨_, _, _, _, _, _, _, _, _, _, _, _, _, _, rfl, hlo.apart6 hr, hhi.apart6 hr⟩, put6_q hq hg⟩
theorem boxS1r (w : World) (s1 : Bool) (t1 b1 : Value) (s2 : Bool) (t2 b2 : Value) : ∃ W, (w.alloc (.cells #[.bool s1, t1, b1, .bool s2, t2, b2] 70)).alloc (.cells #[.bool false, .slice none 0 0, .slice none 0 0, .bool false, .slice none 0 0, .slice none 0 0] 70) = W ∧
    Q w W ∧ Sp W w.heap.size s1 t1 b1 s2 t2 b2 ∧ Sp W (w.heap.size + 1) false (.slice none 0 0) (.slice none 0 0) false (.slice none 0 0) (.slice none 0 0) := by
  have h1 := Sp.new w s1 t1 b1 s2 t2 b2
  have h2 := Sp.new (w.alloc (.cells #[.bool s1, t1, b1, .bool s2, t2, b2] 70)) false (.slice none 0 0) (.slice none 0 0) false (.slice none 0 0) (.slice none 0 0)
  rw [World.size_alloc] at h2
  exact ⟨_, rfl, ((Q.refl _).alloc _).alloc _, h1.q ((Q.refl _).alloc _), h2⟩
set_option maxRecDepth 100000 in
set_option maxHeartbeats 1000000 in
theorem q_ordered (a : Value) (p q : Rat) (w : World) (ha : Ns w a p q) (hB : 64 * (sz p + sz q) + 400 ≤ LIM) : Calls Tryz.prog 153 #[a] w fun e w' => ∃ r, e = .returned r ∧ Ns w' r (rmin p q) (rmax p q) ∧ Q w w' := by
  obtain ⟨s11, A11, n11, c11, A12, n12, c12, s12, A13, n13, c13, A14, n14, c14, rfl, lo1, hi1⟩ := ha
  obtain ⟨w0, hW, hG0, hA0, hT0⟩ := boxS1r w s11 (.slice A11 n11 c11) (.slice A12 n12 c12) s12 (.slice A13 n13 c13) (.slice A14 n14 c14)
  have HB := Lib.hid hB; clear hB
  obtain ⟨c, hc⟩ : ∃ c, rc p q = c := ⟨_, rfl⟩
  have hle := rc_le p q
  rw [hc] at hle
  have HC := Lib.hid hc; have HLE := Lib.hid hle; clear hc hle
  by_cases h : 0 < c
  · have HH := Lib.hid h
    have hnle : ¬ p ≤ q := fun h1 => by have := HLE.out.2 h1; have := HH.out; omega
    have hge : q ≤ p := by grind
    have hm1 : rmin p q = q := if_neg hnle
    have hm2 : rmax p q = p := if_pos hge
    rw [hm1, hm2]
    clear hm1 hm2 hnle hge
    obtain ⟨a0, a1, a2, a3, a4, a5⟩ := hA0.cells
    go_enter Tryz.func153, Tryz.ntmps153
    go_wp2_with fail
    clear hW
    refine (q_Cmp _ _ p q _ (lo1.q hG0) (hi1.q hG0) HB.out).mono ?_
    rintro e w1 ⟨rfl, hq1⟩
    have hG1 := hG0.trans hq1
    have hA1 := hA0.q hq1
    have hT1 := hT0.q hq1
    clear a0 a1 a2 a3 a4 a5
    obtain ⟨a0, a1, a2, a3, a4, a5⟩ := hA1.cells
    have fz := hT1.frozen
    obtain ⟨r0, r1, r2, r3, r4, r5⟩ := hT1.cells
    rw [HC.out]
    go_wp2_with fail
    obtain ⟨z0, z1, z2, z3, z4, z5, hvF, hqF⟩ := Ns.store hT1 (hi1.q hG1) (lo1.q hG1) hG1 (Nat.le_add_right _ _)
    unfold put6 at z0 z1 z2 z3 z4 z5 hvF hqF
    refine bodyPost_ret (v := .agg #[.bool s12, .slice A13 n13 c13, .slice A14 n14 c14, .bool s11, .slice A11 n11 c11, .slice A12 n12 c12]) (by simp [results, Tryz.results153, go_sem, z0, z1, z2, z3, z4, z5]) rfl ?_
    exact ⟨_, rfl, hvF, hqF⟩
  · have HH := Lib.hid h
    have hm1 : rmin p q = p := if_pos (HLE.out.1 (by have := HH.out; omega))
    have hm2 : rmax p q = q := rmax_of (HLE.out.1 (by have := HH.out; omega))
    rw [hm1, hm2]
    clear hm1 hm2
    obtain ⟨a0, a1, a2, a3, a4, a5⟩ := hA0.cells
    go_enter Tryz.func153, Tryz.ntmps153
    go_wp2_with fail
    clear hW
    refine (q_Cmp _ _ p q _ (lo1.q hG0) (hi1.q hG0) HB.out).mono ?_
    rintro e w1 ⟨rfl, hq1⟩
    have hG1 := hG0.trans hq1
    have hA1 := hA0.q hq1
    have hT1 := hT0.q hq1
    clear a0 a1 a2 a3 a4 a5
    obtain ⟨a0, a1, a2, a3, a4, a5⟩ := hA1.cells
    have fz := hT1.frozen
    obtain ⟨r0, r1, r2, r3, r4, r5⟩ := hT1.cells
    rw [HC.out]
    go_wp2_with fail
    obtain ⟨z0, z1, z2, z3, z4, z5, hvF, hqF⟩ := Ns.store hT1 (lo1.q hG1) (hi1.q hG1) hG1 (Nat.le_add_right _ _)
    unfold put6 at z0 z1 z2 z3 z4 z5 hvF hqF
    refine bodyPost_ret (v := .agg #[.bool s11, .slice A11 n11 c11, .slice A12 n12 c12, .bool s12, .slice A13 n13 c13, .slice A14 n14 c14]) (by simp [results, Tryz.results153, go_sem, z0, z1, z2, z3, z4, z5]) rfl ?_
    exact ⟨_, rfl, hvF, hqF⟩
end Go.Proofs.YtimdddpfoagbjaaGreatDoor
namespace Go.Proofs.YtimdddpfoagbjaaGreatDoor
namespace Ja
open Go
section
variable {P : Program} {ops : Array Oper} {Q : Exit → Act → World → Prop}
def dstAt (ops : Array Oper) (j : Nat) : Option Tmp := (ops[j]?).bind (·.dst)
def fillGo (ops : Array Oper) (L : Nat → Bool) (vals : Nat → Value) : Nat → Act → Act
  | 0, a => a
  | n + 1, a => if L n = true then (fillGo ops L vals n a).put (dstAt ops n) (vals n) else fillGo ops L vals n a
def upd {α : Type} (f : Nat → α) (i : Nat) (v : α) : Nat → α := fun j => if j = i then v else f j
def fillL (vals : Nat → Value) : List Oper → Nat → Act → Act
  | [], _, a => a
  | o :: os, k, a => fillL vals os (k + 1) (a.put o.dst (vals k))
theorem fillL_eq {vals : Nat → Value} {a : Act} : ∀ (m k : Nat), k + m = ops.size → fillL vals (ops.toList.drop k) k (fillGo ops (fun _ => true) vals k a) = fillGo ops (fun _ => true) vals ops.size a
  | 0, k, h => by
    have : k = ops.size := by omega
    subst this
    rw [List.drop_eq_nil_of_le (by simp)]
    rfl
  | m + 1, k, h => by
    have hk : k < ops.size := by omega
    have hd : ops.toList.drop k = ops[k] :: ops.toList.drop (k + 1) := by
      rw [List.drop_eq_getElem_cons (by simpa using hk)]; simp
    rw [hd]
    unfold fillL
    have := fillL_eq (vals := vals) (a := a) m (k + 1) (by omega)
    have h2 : fillGo ops (fun _ => true) vals (k + 1) a = (fillGo ops (fun _ => true) vals k a).put ops[k].dst (vals k) := by
      conv => lhs; unfold fillGo
      rw [if_pos rfl]
      simp [dstAt, hk]
    rw [h2] at this
    exact this
theorem fillL_full (vals : Nat → Value) (a : Act) : fillL vals ops.toList 0 a = fillGo ops (fun _ => true) vals ops.size a := by
  have := fillL_eq (ops := ops) (vals := vals) (a := a) ops.size 0 (by omega)
  simpa [fillGo] using this
theorem fillGo_congr {L L' : Nat → Bool} {vals vals' : Nat → Value} {a : Act} : ∀ n, (∀ j, j < n → L j = L' j) → (∀ j, j < n → L j = true → vals j = vals' j) → fillGo ops L vals n a = fillGo ops L' vals' n a
  | 0, _, _ => rfl
  | n + 1, h, h2 => by
    unfold fillGo
    rw [fillGo_congr n (fun j hj => h j (by omega)) (fun j hj => h2 j (by omega)), h n (by omega)]
    split
    · rename_i hl
      rw [h2 n (by omega) ((h n (by omega)).trans hl)]
    · rfl
theorem fillGo_put {L : Nat → Bool} {vals : Nat → Value} {a : Act} {i : Nat} {v : Value} (hi : L i = false)
    (hd : ∀ j, j ≠ i → ∀ d, dstAt ops j = some d → dstAt ops i ≠ some d) : ∀ n, i < n → (fillGo ops L vals n a).put (dstAt ops i) v = fillGo ops (upd L i true) (upd vals i v) n a
  | 0, h => absurd h (by omega)
  | n + 1, h => by
    by_cases hin : i = n
    · subst hin
      unfold fillGo
      rw [if_neg (by simp [hi]), if_pos (by simp [upd])]
      rw [fillGo_congr (L := upd L i true) (L' := L) (vals := upd vals i v) (vals' := vals) i (fun j hj => by simp [upd, Nat.ne_of_lt hj]) (fun j hj _ => by simp [upd, Nat.ne_of_lt hj])]
      simp [upd]
    · have ih := fillGo_put (vals := vals) (a := a) (v := v) hi hd n (by omega)
      unfold fillGo
      have hn : n ≠ i := fun e => hin e.symm
      have h1 : upd L i true n = L n := by simp [upd, hn]
      have h2 : upd vals i v n = vals n := by simp [upd, hn]
      rw [h1, h2]
      split
      · rw [← ih]
        exact Act.put_comm _ _ _ (fun d hd' => hd n hn d hd')
      · exact ih
theorem put_tmps (a : Act) (d t : Tmp) (v : Value) : (a.put (some d) v).tmps[t]? = if d = t then (if t < a.tmps.size then some v else none) else a.tmps[t]? := by
  simp only [Act.put, Array.getElem?_setIfInBounds]
  split
  · rename_i h; subst h; rfl
  · rfl
theorem put_size (a : Act) (d : Option Tmp) (v : Value) : (a.put d v).tmps.size = a.tmps.size := by
  cases d <;> simp [Act.put]
theorem fill_size {L : Nat → Bool} {vals : Nat → Value} {a : Act} : ∀ n, (fillGo ops L vals n a).tmps.size = a.tmps.size
  | 0 => rfl
  | n + 1 => by unfold fillGo; split <;> simp [put_size, fill_size n]
theorem fill_at {L : Nat → Bool} {vals : Nat → Value} {a : Act} {t : Tmp} : ∀ n, (∀ j, j < n → dstAt ops j = some t → L j = true) →
    (fillGo ops L vals n a).tmps[t]? = (fillGo ops (fun _ => true) vals n a).tmps[t]?
  | 0, _ => rfl
  | n + 1, h => by
    have ih := fill_at (vals := vals) (a := a) (t := t) n (fun j hj => h j (by omega))
    unfold fillGo
    rw [if_pos rfl]
    split
    · cases hd : dstAt ops n with
      | none => simpa [Act.put] using ih
      | some d => rw [put_tmps, put_tmps, fill_size, fill_size, ih]
    · rename_i hl
      cases hd : dstAt ops n with
      | none => simpa [Act.put] using ih
      | some d =>
        have hne : d ≠ t := fun e => hl (h n (by omega) (by rw [hd, e]))
        rw [put_tmps, if_neg hne, ih]
def shape (ops : Array Oper) : Bool :=
  (List.range ops.size).all fun i => match ops[i]? with
    | none => false
    | some o => (List.range ops.size).all (fun j => j == i || (match dstAt ops j with | some d => !(o.dst == some d) | none => true)) &&
        (o.looksAt ops).all (fun t => (List.range ops.size).all fun j => !(dstAt ops j == some t) || o.after.any fun e => Region.binds .any e && e.on == j) &&
        o.after.all (fun e => !Region.binds .any e || e.on < i)
theorem shape_spec (h : shape ops = true) {i : Nat} {o : Oper} (ho : ops[i]? = some o) :
    (∀ j, j ≠ i → ∀ d, dstAt ops j = some d → dstAt ops i ≠ some d) ∧
    (∀ t ∈ o.looksAt ops, ∀ j, dstAt ops j = some t → ∃ e ∈ o.after, Region.binds .any e = true ∧ e.on = j) ∧
    (∀ e ∈ o.after, Region.binds .any e = true → e.on < i) := by
  have hi : i < ops.size := (Array.getElem?_eq_some_iff.1 ho).1
  have h1 := List.all_eq_true.1 h i (List.mem_range.2 hi)
  simp only [ho, Bool.and_eq_true, List.all_eq_true, Array.all_eq_true_iff_forall_mem] at h1
  obtain ⟨⟨ha, hb⟩, hc⟩ := h1
  have hlt : ∀ j d, dstAt ops j = some d → j < ops.size := fun j d hd => by
    unfold dstAt at hd
    cases hj : ops[j]? with
    | none => simp [hj] at hd
    | some o => exact (Array.getElem?_eq_some_iff.1 hj).1
  refine ⟨fun j hne d hd he => ?_, fun t ht j hd => ?_, fun e he hbi => ?_⟩
  · have := ha j (List.mem_range.2 (hlt j d hd))
    simp only [hd, Bool.or_eq_true, beq_iff_eq, hne, false_or, Bool.not_eq_true'] at this
    have he2 : o.dst = some d := by simpa [dstAt, ho] using he
    simp [he2] at this
  · have := hb t ht j (List.mem_range.2 (hlt j t hd))
    simp only [hd, Bool.or_eq_true, Bool.not_eq_true', beq_self_eq_true, Bool.true_eq_false, false_or] at this
    obtain ⟨e, he, hbo⟩ := Array.any_eq_true'.1 this
    simp only [Bool.and_eq_true, beq_iff_eq] at hbo
    exact ⟨e, he, hbo.1, hbo.2⟩
  · have := hc e he
    simp only [Bool.or_eq_true, Bool.not_eq_true', decide_eq_true_eq] at this
    rcases this with h2 | h2
    · rw [hbi] at h2; cases h2
    · exact h2
def left (L : Nat → Bool) : Nat → Nat
  | 0 => 0
  | n + 1 => left L n + if L n = true then 0 else 1
theorem left_congr {L L' : Nat → Bool} : ∀ n, (∀ j, j < n → L j = L' j) → left L n = left L' n
  | 0, _ => rfl
  | n + 1, h => by unfold left; rw [left_congr n (fun j hj => h j (by omega)), h n (by omega)]
theorem left_upd {L : Nat → Bool} {i : Nat} (hi : L i = false) : ∀ n, i < n → left (upd L i true) n + 1 = left L n
  | 0, h => absurd h (by omega)
  | n + 1, h => by
    unfold left
    by_cases hin : i = n
    · subst hin
      rw [left_congr (L := upd L i true) (L' := L) i (fun j hj => by simp [upd, Nat.ne_of_lt hj])]
      simp [upd, hi]
    · have ih := left_upd hi n (by omega)
      have hn : n ≠ i := fun e => hin e.symm
      have h1 : upd L i true n = L n := by simp [upd, hn]
      rw [h1]; omega
theorem left_zero {L : Nat → Bool} : ∀ n, left L n = 0 → ∀ j, j < n → L j = true
  | 0, _, j, hj => absurd hj (by omega)
  | n + 1, h, j, hj => by
    unfold left at h
    by_cases hL : L n = true
    · by_cases hjn : j = n
      · subst hjn; exact hL
      · exact left_zero n (by omega) j (by omega)
    · rw [if_neg hL] at h; omega
theorem left_le {L : Nat → Bool} : ∀ n, left L n ≤ n
  | 0 => Nat.le_refl _
  | n + 1 => by unfold left; have := left_le (L := L) n; split <;> omega
theorem first_left {L : Nat → Bool} : ∀ n, (∃ j, j < n ∧ L j = false) → ∃ i, i < n ∧ L i = false ∧ ∀ j, j < i → L j = true
  | 0, ⟨j, hj, _⟩ => absurd hj (by omega)
  | n + 1, ⟨j, hj, hL⟩ => by
    by_cases hex : ∃ j, j < n ∧ L j = false
    · obtain ⟨i, h1, h2, h3⟩ := first_left n hex
      exact ⟨i, by omega, h2, h3⟩
    · have hjn : j = n := by
        rcases Nat.lt_or_ge j n with h | h
        · exact absurd ⟨j, h, hL⟩ hex
        · omega
      subst hjn
      refine ⟨j, by omega, hL, fun k hk => ?_⟩
      cases hk2 : L k with
      | true => rfl
      | false => exact absurd ⟨k, hk, hk2⟩ hex
def Step (P : Program) (ops : Array Oper) (J : (Nat → Bool) → (Nat → Value) → World → Prop) (F : (Nat → Value) → Act) (i : Nat) (o : Oper) : Prop :=
  ∀ (L : Nat → Bool) (vals : Nat → Value) (w : World), L i = false → (∀ e ∈ o.after, Region.binds .any e = true → L e.on = true) → J L vals w →
    if Region.wanted o (yielded ops (F vals).tmps) = true then
      (∀ K : Act → World → Prop, (∀ v w' a', a' = (F vals).put o.dst v → J (upd L i true) (upd vals i v) w' → K a' w') → o.wp P (F vals) w K (fun _ _ _ => False))
    else J (upd L i true) (upd vals i undef) w
theorem wp_other {o : Oper} {a f : Act} {w : World} {K : Act → World → Prop} {R : Value → World → Prop} (he : execOp a.eval o = execOp f.eval o)
    (h : o.wp P f w (fun a' w' => ∃ v, a' = f.put o.dst v ∧ R v w') (fun _ _ _ => False)) (hf : f.tmps.size = a.tmps.size) (hin : ∀ d, o.dst = some d → d < a.tmps.size)
    (hK : ∀ v w', R v w' → K (a.put o.dst v) w') : o.wp P a w K Q := by
  have key : ∀ v w', (∃ u, f.put o.dst v = f.put o.dst u ∧ R u w') → K (a.put o.dst v) w' := by
    rintro v w' ⟨u, e, r⟩
    have e2 : a.put o.dst v = a.put o.dst u := by
      cases hd : o.dst with
      | none => rfl
      | some d =>
        have hlt := hin d hd
        have h1 := congrArg (fun x : Act => x.tmps[d]?) e
        simp only [hd, put_tmps, hf, hlt, if_true, Option.some.injEq] at h1
        rw [h1]
    rw [e2]
    exact hK u w' r
  unfold Oper.wp at *
  rw [he]
  generalize (execOp f.eval o).run P w = r at *
  cases r with
  | ok n w' =>
    cases n <;> simp only [Oper.upon] at h ⊢
    case value u => exact key _ _ h
    case skip => exact key _ _ h
    case defer d =>
      obtain ⟨v, e, _⟩ := h
      have := congrArg (fun x : Act => x.defers.length) e
      cases hd : o.dst <;> simp [hd, Act.put] at this
    case enter g args =>
      refine Calls.mono h fun e w'' hh => ?_
      cases e with
      | returned u => exact key _ _ hh
      | panicked c => exact hh.elim
      | outgrown =>
        obtain ⟨_, _, x⟩ := hh
        exact x.elim
    case row row args => exact Rows.mono h fun u w'' hh => key _ _ hh
  | halt x w' => cases x <;> simp only [Oper.upon] at h
theorem eval_of_at {a f : Act} {x : Operand} (h : ∀ t, x = .tmp t → a.tmps[t]? = f.tmps[t]?) : a.eval x = f.eval x := by
  cases x with
  | tmp t => simp only [Act.eval, Array.getD_eq_getD_getElem?, h t rfl]
  | _ => rfl
theorem any_inv {J : (Nat → Bool) → (Nat → Value) → World → Prop} {a : Act} {F : (Nat → Value) → Act} (hsh : shape ops = true) (hns : Region.noSelect ops = true)
    (hin : ∀ (i : Nat) (o : Oper) (d : Tmp), ops[i]? = some o → o.dst = some d → d < a.tmps.size)
    (hF : ∀ vals, F vals = fillGo ops (fun _ => true) vals ops.size a)
    (hstep : ∀ (i : Nat) (o : Oper), ops[i]? = some o → Step P ops J F i o)
    (hend : ∀ L vals w, (∀ j, j < ops.size → L j = true) → J L vals w → Q .normal (F vals) w) :
    ∀ (fuel : Nat) (listed : Array Bool) (L : Nat → Bool) (vals : Nat → Value) (w : World), L = (fun j => listed.getD j false) → listed.size = ops.size → left L ops.size ≤ fuel → J L vals w →
      wpAny P .any ops Q fuel listed (fillGo ops L vals ops.size a) w := by
  have done : ∀ (listed : Array Bool) (L : Nat → Bool) (vals : Nat → Value) (w : World), L = (fun j => listed.getD j false) → listed.size = ops.size → J L vals w → (∀ j, j < ops.size → L j = true) →
      Q .normal (fillGo ops L vals ops.size a) w := fun listed L vals w hL hs hJ hall => by
    have := hend L vals w hall hJ
    rw [hF, fillGo_congr (L := fun _ => true) (L' := L) (vals' := vals) ops.size (fun j hj => (hall j hj).symm) (fun _ _ _ => rfl)] at this
    exact this
  have none_ready : ∀ (listed : Array Bool) (L : Nat → Bool), L = (fun j => listed.getD j false) → listed.size = ops.size → Region.ready .any ops listed = [] → ∀ j, j < ops.size → L j = true := by
    intro listed L hL hs hr j hj
    cases hLj : L j with
    | true => rfl
    | false =>
      obtain ⟨i, hi, hLi, hbelow⟩ := first_left ops.size ⟨j, hj, hLj⟩
      obtain ⟨o, ho⟩ : ∃ o, ops[i]? = some o := ⟨_, Array.getElem?_eq_getElem hi⟩
      obtain ⟨-, -, hc⟩ := shape_spec hsh ho
      have : i ∈ Region.ready .any ops listed := mem_ready.2 ⟨by
        have h1 : listed.getD i false = false := by rw [hL] at hLi; exact hLi
        have h2 : i < listed.size := by omega
        simp [h2] at h1 ⊢
        exact h1, o, ho, fun e he hb => by
          have := hbelow e.on (hc e he hb)
          rw [hL] at this; exact this⟩
      rw [hr] at this
      cases this
  intro fuel
  induction fuel with
  | zero =>
    intro listed L vals w hL hs hle hJ
    have hall := left_zero ops.size (by omega : left L ops.size = 0)
    refine ⟨?_, done listed L vals w hL hs hJ hall⟩
    cases hr : Region.ready .any ops listed with
    | nil => rfl
    | cons i rest =>
      have hm : i ∈ Region.ready .any ops listed := by rw [hr]; exact List.mem_cons_self
      obtain ⟨h0, o, ho, -⟩ := mem_ready.1 hm
      have hi : i < ops.size := (Array.getElem?_eq_some_iff.1 ho).1
      have h1 := hall i hi
      rw [hL] at h1
      have h2 : i < listed.size := by omega
      simp [h2] at h0 h1
      rw [h0] at h1
      cases h1
  | succ fuel ih =>
    intro listed L vals w hL hs hle hJ
    refine ⟨fun hr => done listed L vals w hL hs hJ (none_ready listed L hL hs hr), fun i hir => ?_⟩
    obtain ⟨h0, o, ho, hall⟩ := mem_ready.1 hir
    have hi : i < ops.size := (Array.getElem?_eq_some_iff.1 ho).1
    have hil : i < listed.size := by omega
    obtain ⟨hd, hlook, -⟩ := shape_spec hsh ho
    have hLi : L i = false := by rw [hL]; simp [hil] at h0 ⊢; exact h0
    have hdep : ∀ e ∈ o.after, Region.binds .any e = true → L e.on = true := fun e he hb => by rw [hL]; exact hall e he hb
    have hst := hstep i o ho L vals w hLi hdep hJ
    -- the act at hand agrees with the full one on all that the operation looks at
    have hat : ∀ t ∈ o.looksAt ops, (fillGo ops L vals ops.size a).tmps[t]? = (F vals).tmps[t]? := fun t ht => by
      rw [hF]
      exact fill_at ops.size (fun j _ hj => by
        obtain ⟨e, he, hb, rfl⟩ := hlook t ht j hj
        exact hdep e he hb)
    have hex : execOp (fillGo ops L vals ops.size a).eval o = execOp (F vals).eval o :=
      execOp_congr o (fun cs b => Region.noSelect_spec hns i o cs b ho) fun x hx => eval_of_at fun t ht => hat t (by
        subst ht
        exact List.mem_append_left _ (List.mem_filterMap.2 ⟨.tmp t, by simpa using hx, rfl⟩))
    have hwa : Region.wanted o (yielded ops (fillGo ops L vals ops.size a).tmps) = Region.wanted o (yielded ops (F vals).tmps) := by
      unfold Region.wanted
      cases hg : o.guard with
      | none => rfl
      | some gw =>
        obtain ⟨g, want⟩ := gw
        have hy : yielded ops (fillGo ops L vals ops.size a).tmps g = yielded ops (F vals).tmps g := by
          unfold yielded
          cases ht : (ops[g]?).bind (·.dst) with
          | none => rfl
          | some t =>
            have := hat t (by simp [Oper.looksAt, hg, ht])
            simp only [Option.bind_some, this]
        simp only [hy]
    have hdst : o.dst = dstAt ops i := by simp [dstAt, ho]
    have hL2 : upd L i true = fun j => (listed.setIfInBounds i true).getD j false := by
      funext j
      unfold upd
      by_cases hji : j = i
      · subst hji; simp [hil]
      · rw [if_neg hji, hL, getD_set_ne false (Ne.symm hji)]
    have hle2 : left (upd L i true) ops.size ≤ fuel := by
      have := left_upd hLi ops.size hi
      omega
    have next : ∀ v w', J (upd L i true) (upd vals i v) w' → wpAny P .any ops Q fuel (listed.setIfInBounds i true) ((fillGo ops L vals ops.size a).put o.dst v) w' := fun v w' hJ' => by
      rw [hdst, fillGo_put hLi hd ops.size hi]
      exact ih (listed.setIfInBounds i true) (upd L i true) (upd vals i v) w' hL2 (by simp [hs]) hle2 hJ'
    unfold wpOp
    simp only [ho]
    rw [hwa]
    split
    · rename_i hw
      rw [if_pos hw] at hst
      refine .inl (wp_other hex (R := fun v w' => J (upd L i true) (upd vals i v) w') (hst _ (fun v w' a' e hJ' => ⟨v, e, hJ'⟩)) ?_ ?_ next)
      · rw [hF, fill_size, fill_size]
      · intro d hd'
        rw [fill_size]
        exact hin i o d ho hd'
    · rename_i hw
      rw [if_neg hw] at hst
      exact next undef w hst
theorem ops_inv {J : (Nat → Bool) → (Nat → Value) → World → Prop} {a : Act} {F : (Nat → Value) → Act} (hsh : shape ops = true) (hns : Region.noSelect ops = true)
    (hin : ∀ (i : Nat) (o : Oper) (d : Tmp), ops[i]? = some o → o.dst = some d → d < a.tmps.size)
    (hF : ∀ vals, F vals = fillGo ops (fun _ => true) vals ops.size a)
    (hstep : ∀ (i : Nat) (o : Oper), ops[i]? = some o → Step P ops J F i o)
    (hend : ∀ L vals w, (∀ j, j < ops.size → L j = true) → J L vals w → Q .normal (F vals) w) :
    ∀ (m k : Nat) (L : Nat → Bool) (vals : Nat → Value) (w : World), k + m = ops.size → L = (fun j => decide (j < k)) → J L vals w →
      wpOps P ops Q (List.range' k m) (fillGo ops L vals ops.size a) w := by
  intro m
  induction m with
  | zero =>
    intro k L vals w hk hL hJ
    have hall : ∀ j, j < ops.size → L j = true := fun j hj => by rw [hL]; simp; omega
    have := hend L vals w hall hJ
    rw [hF, fillGo_congr (L := fun _ => true) (L' := L) (vals' := vals) ops.size (fun j hj => (hall j hj).symm) (fun _ _ _ => rfl)] at this
    exact this
  | succ m ih =>
    intro k L vals w hk hL hJ
    have hi : k < ops.size := by omega
    obtain ⟨o, ho⟩ : ∃ o, ops[k]? = some o := ⟨_, Array.getElem?_eq_getElem hi⟩
    obtain ⟨hd, hlook, hlow⟩ := shape_spec hsh ho
    have hLi : L k = false := by rw [hL]; simp
    have hdep : ∀ e ∈ o.after, Region.binds .any e = true → L e.on = true := fun e he hb => by
      have := hlow e he hb
      rw [hL]; simpa using this
    have hst := hstep k o ho L vals w hLi hdep hJ
    have hat : ∀ t ∈ o.looksAt ops, (fillGo ops L vals ops.size a).tmps[t]? = (F vals).tmps[t]? := fun t ht => by
      rw [hF]
      exact fill_at ops.size (fun j _ hj => by
        obtain ⟨e, he, hb, rfl⟩ := hlook t ht j hj
        exact hdep e he hb)
    have hex : execOp (fillGo ops L vals ops.size a).eval o = execOp (F vals).eval o :=
      execOp_congr o (fun cs b => Region.noSelect_spec hns k o cs b ho) fun x hx => eval_of_at fun t ht => hat t (by
        subst ht
        exact List.mem_append_left _ (List.mem_filterMap.2 ⟨.tmp t, by simpa using hx, rfl⟩))
    have hwa : Region.wanted o (yielded ops (fillGo ops L vals ops.size a).tmps) = Region.wanted o (yielded ops (F vals).tmps) := by
      unfold Region.wanted
      cases hg : o.guard with
      | none => rfl
      | some gw =>
        obtain ⟨g, want⟩ := gw
        have hy : yielded ops (fillGo ops L vals ops.size a).tmps g = yielded ops (F vals).tmps g := by
          unfold yielded
          cases ht : (ops[g]?).bind (·.dst) with
          | none => rfl
          | some t =>
            have := hat t (by simp [Oper.looksAt, hg, ht])
            simp only [Option.bind_some, this]
        simp only [hy]
    have hdst : o.dst = dstAt ops k := by simp [dstAt, ho]
    have hL2 : upd L k true = fun j => decide (j < k + 1) := by
      funext j
      unfold upd
      by_cases hjk : j = k
      · subst hjk; simp
      · rw [if_neg hjk, hL]
        have : (j < k) ↔ (j < k + 1) := by omega
        simp [this]
    have next : ∀ v w', J (upd L k true) (upd vals k v) w' → wpOps P ops Q (List.range' (k + 1) m) ((fillGo ops L vals ops.size a).put o.dst v) w' := fun v w' hJ' => by
      rw [hdst, fillGo_put hLi hd ops.size hi]
      exact ih (k + 1) (upd L k true) (upd vals k v) w' (by omega) hL2 hJ'
    rw [List.range'_succ]
    simp only [wpOps, ho]
    rw [hwa]
    split
    · rename_i hw
      rw [if_pos hw] at hst
      refine .inl (wp_other hex (R := fun v w' => J (upd L k true) (upd vals k v) w') (hst _ (fun v w' a' e hJ' => ⟨v, e, hJ'⟩)) ?_ ?_ next)
      · rw [hF, fill_size, fill_size]
      · intro d hd'
        rw [fill_size]
        exact hin k o d ho hd'
    · rename_i hw
      rw [if_neg hw] at hst
      exact next undef w hst
def Steps (P : Program) (ops : Array Oper) (J : (Nat → Bool) → (Nat → Value) → World → Prop) (F : (Nat → Value) → Act) : Nat → List Oper → Prop
  | _, [] => True
  | i, o :: os => Step P ops J F i o ∧ Steps P ops J F (i + 1) os
theorem Steps.cons {J : (Nat → Bool) → (Nat → Value) → World → Prop} {F : (Nat → Value) → Act} {i : Nat} {o : Oper} {os : List Oper} (h : Step P ops J F i o) (hs : Steps P ops J F (i + 1) os) : Steps P ops J F i (o :: os) := ⟨h, hs⟩
theorem Steps.nil {J : (Nat → Bool) → (Nat → Value) → World → Prop} {F : (Nat → Value) → Act} {i : Nat} : Steps P ops J F i [] := trivial
theorem Steps.at {J : (Nat → Bool) → (Nat → Value) → World → Prop} {F : (Nat → Value) → Act} : ∀ (os : List Oper) (k i : Nat) (o : Oper), Steps P ops J F k os → os[i]? = some o → Step P ops J F (k + i) o
  | [], _, _, _, _, h => by simp at h
  | x :: xs, k, 0, o, hs, h => by
    simp at h; subst h; exact hs.1
  | x :: xs, k, i + 1, o, hs, h => by
    have := Steps.at xs (k + 1) i o hs.2 (by simpa using h)
    rwa [Nat.add_assoc, Nat.add_comm 1 i] at this
def inBounds (ops : Array Oper) (n : Nat) : Bool := ops.all fun o => match o.dst with | some d => d < n | none => true
theorem wp_region_inv {id : Nat} {a : Act} {w : World} {J : (Nat → Bool) → (Nat → Value) → World → Prop} {F : (Nat → Value) → Act} (hm : P.follows .mixedOrders = true)
    (hsh : (shape ops && Region.noSelect ops && inBounds ops a.tmps.size) = true)
    (hF : ∀ vals, F vals = fillGo ops (fun _ => true) vals ops.size a)
    (h0 : J (fun _ => false) (fun _ => undef) w.drew)
    (hstep : Steps P ops J F 0 ops.toList)
    (hend : ∀ L vals w, (∀ j, j < ops.size → L j = true) → J L vals w → Q .normal (F vals) w) : (Code.region id ops true).wp P Q a w := by
  simp only [Bool.and_eq_true] at hsh
  obtain ⟨⟨h1, h2⟩, h3⟩ := hsh
  refine wp_region_any hm ?_
  have e : fillGo ops (fun _ => false) (fun _ => undef) ops.size a = a := by
    have : ∀ n, fillGo ops (fun _ => false) (fun _ => undef) n a = a := fun n => by
      induction n with
      | zero => rfl
      | succ n ih => unfold fillGo; simp [ih]
    exact this _
  have hL : (fun _ => false : Nat → Bool) = fun j => (Array.replicate ops.size false).getD j false := by
    funext j
    simp only [Array.getD_eq_getD_getElem?, Array.getElem?_replicate]
    split <;> rfl
  have := any_inv (P := P) (Q := Q) (J := J) (a := a) (F := F) h1 h2 (fun i o d ho hd => by
    have := Array.all_eq_true_iff_forall_mem.1 h3 o (Array.mem_of_getElem? ho)
    simpa [hd] using this) hF (fun i o ho => by
    have := Steps.at ops.toList 0 i o hstep (by simpa using ho)
    simpa using this) hend ops.size (Array.replicate ops.size false) (fun _ => false) (fun _ => undef) w.drew hL (by simp) (left_le _) h0
  rw [e] at this
  exact this
theorem wp_region_text {id : Nat} {a : Act} {w : World} {J : (Nat → Bool) → (Nat → Value) → World → Prop} {F : (Nat → Value) → Act}
    (hsh : (shape ops && Region.noSelect ops && inBounds ops a.tmps.size) = true)
    (hF : ∀ vals, F vals = fillGo ops (fun _ => true) vals ops.size a)
    (h0 : J (fun _ => false) (fun _ => undef) w)
    (hstep : Steps P ops J F 0 ops.toList)
    (hend : ∀ L vals w, (∀ j, j < ops.size → L j = true) → J L vals w → Q .normal (F vals) w) : (Code.region id ops false).wp P Q a w := by
  simp only [Bool.and_eq_true] at hsh
  obtain ⟨⟨h1, h2⟩, h3⟩ := hsh
  refine wp_region ?_
  have e : fillGo ops (fun _ => false) (fun _ => undef) ops.size a = a := by
    have : ∀ n, fillGo ops (fun _ => false) (fun _ => undef) n a = a := fun n => by
      induction n with
      | zero => rfl
      | succ n ih => unfold fillGo; simp [ih]
    exact this _
  have := ops_inv (P := P) (Q := Q) (J := J) (a := a) (F := F) h1 h2 (fun i o d ho hd => by
    have := Array.all_eq_true_iff_forall_mem.1 h3 o (Array.mem_of_getElem? ho)
    simpa [hd] using this) hF (fun i o ho => by
    have := Steps.at ops.toList 0 i o hstep (by simpa using ho)
    simpa using this) hend ops.size 0 (fun _ => false) (fun _ => undef) w (by omega) (by funext j; simp) h0
  rw [e, ← List.range_eq_range'] at this
  exact this
theorem fill_get {vals : Nat → Value} {a : Act} {i : Nat} {d : Tmp} (hi : dstAt ops i = some d) (hb : d < a.tmps.size)
    (hd : ∀ j, j ≠ i → ∀ e, dstAt ops j = some e → dstAt ops i ≠ some e) : ∀ n, i < n → (fillGo ops (fun _ => true) vals n a).tmps[d]? = some (vals i)
  | 0, h => absurd h (by omega)
  | n + 1, h => by
    unfold fillGo
    rw [if_pos rfl]
    by_cases hin : n = i
    · subst hin
      rw [hi, put_tmps, if_pos rfl, fill_size, if_pos hb]
    · have ih := fill_get (vals := vals) hi hb hd n (by omega)
      cases he : dstAt ops n with
      | none => simpa [Act.put] using ih
      | some e =>
        have hne : e ≠ d := fun x => hd n hin e he (by rw [hi, x])
        rw [put_tmps, if_neg hne]; exact ih
section
variable {M : World → World → Prop} {S : Nat → Value → World → Prop} {F : (Nat → Value) → Act} {w1 : World}
def JS (M : World → World → Prop) (S : Nat → Value → World → Prop) (w1 : World) : (Nat → Bool) → (Nat → Value) → World → Prop := fun L vals w => M w1 w ∧ ∀ j, L j = true → S j (vals j) w
theorem JS.step {i : Nat} {o : Oper} (hMt : ∀ a b c, M a b → M b c → M a c) (hS : ∀ j v w w', M w w' → S j v w → S j v w')
    (h : ∀ (vals : Nat → Value) (w : World), M w1 w → (∀ e ∈ o.after, Region.binds .any e = true → S e.on (vals e.on) w) →
      if Region.wanted o (yielded ops (F vals).tmps) = true then
        (∀ K : Act → World → Prop, (∀ v w' a', a' = (F vals).put o.dst v → S i v w' → M w w' → K a' w') → o.wp P (F vals) w K (fun _ _ _ => False))
      else S i undef w) : Step P ops (JS M S w1) F i o := by
  intro L vals w hL hdep hJ
  have h1 := h vals w hJ.1 (fun e he hb => hJ.2 _ (hdep e he hb))
  have nxt : ∀ v w', S i v w' → (∀ j v, S j v w → S j v w') → ∀ j, upd L i true j = true → S j (upd vals i v j) w' := fun v w' hv hk j hj => by
    unfold upd at *
    by_cases hji : j = i
    · subst hji; simpa using hv
    · rw [if_neg hji] at hj ⊢; exact hk j _ (hJ.2 j hj)
  split at h1
  · rename_i hw
    rw [if_pos hw]
    intro K hK
    refine h1 K fun v w' a' e hv hm => hK v w' a' e ⟨hMt _ _ _ hJ.1 hm, nxt v w' hv (fun j u hu => hS j u w w' hm hu)⟩
  · rename_i hw
    rw [if_neg hw]
    exact ⟨hJ.1, nxt undef w h1 (fun _ _ h => h)⟩
theorem wp_region_each {id : Nat} {a : Act} {w : World} (hm : P.follows .mixedOrders = true)
    (hsh : (shape ops && Region.noSelect ops && inBounds ops a.tmps.size) = true)
    (hF : ∀ vals, F vals = fillGo ops (fun _ => true) vals ops.size a)
    (hMr : M w.drew w.drew)
    (hstep : Steps P ops (JS M S w.drew) F 0 ops.toList)
    (hend : ∀ vals w', M w.drew w' → (∀ j, j < ops.size → S j (vals j) w') → Q .normal (F vals) w') : (Code.region id ops true).wp P Q a w :=
  wp_region_inv hm hsh hF ⟨hMr, fun j h => by cases h⟩ hstep (fun L vals w' hall hJ => hend vals w' hJ.1 fun j hj => hJ.2 j (hall j hj))
theorem wp_text_each {id : Nat} {a : Act} {w : World}
    (hsh : (shape ops && Region.noSelect ops && inBounds ops a.tmps.size) = true)
    (hF : ∀ vals, F vals = fillGo ops (fun _ => true) vals ops.size a)
    (hMr : M w w)
    (hstep : Steps P ops (JS M S w) F 0 ops.toList)
    (hend : ∀ vals w', M w w' → (∀ j, j < ops.size → S j (vals j) w') → Q .normal (F vals) w') : (Code.region id ops false).wp P Q a w :=
  wp_region_text hsh hF ⟨hMr, fun j h => by cases h⟩ hstep (fun L vals w' hall hJ => hend vals w' hJ.1 fun j hj => hJ.2 j (hall j hj))
theorem wanted_of {a : Act} {vals : Nat → Value} {o : Oper} {g : Nat} {want b : Bool} (hsh : (shape ops && Region.noSelect ops && inBounds ops a.tmps.size) = true)
    (hg : o.guard = some (g, want)) (hlt : g < ops.size) (hd : ((ops[g]?).bind (·.dst)).isSome = true) (hv : vals g = .bool b) :
    Region.wanted o (yielded ops (fillGo ops (fun _ => true) vals ops.size a).tmps) = (b == want) := by
  simp only [Bool.and_eq_true] at hsh
  obtain ⟨⟨h1, h2⟩, h3⟩ := hsh
  obtain ⟨og, hog⟩ : ∃ o, ops[g]? = some o := ⟨_, Array.getElem?_eq_getElem hlt⟩
  obtain ⟨d, hd2⟩ := Option.isSome_iff_exists.1 hd
  have hin : d < a.tmps.size := by
    have := Array.all_eq_true_iff_forall_mem.1 h3 og (Array.mem_of_getElem? hog)
    simp only [hog, Option.bind_some] at hd2
    simpa [hd2] using this
  have := fill_get (ops := ops) (vals := vals) (a := a) (i := g) (d := d) hd2 hin (shape_spec h1 hog).1 ops.size hlt
  unfold Region.wanted yielded
  simp only [hg, hd2, Option.bind_some, this, hv]
  cases b <;> cases want <;> rfl
end
end
end Ja
end Go.Proofs.YtimdddpfoagbjaaGreatDoor
namespace Go.Proofs.YtimdddpfoagbjaaGreatDoor
open Go.RowKit
open Ma Me
inductive Vs where
  | any
  | eq (v : Value)
  | num (q : Rat)
  | span (p q : Rat)
  | pair (q : Rat) (c : Int)
  | three (p q r : Rat) (b : Bool)
def Vs.holds : Vs → Value → World → Prop
  | .any, _, _ => True
  | .eq u, v, _ => v = u
  | .num q, v, w => Nq w v q
  | .span p q, v, w => Ns w v p q
  | .pair q c, v, w => ∃ r, v = .tuple #[r, .int .i64 c] ∧ Nq w r q
  | .three p q r b, v, w => ∃ x y z, v = .tuple #[x, y, z, .bool b] ∧ Nq w x p ∧ Nq w y q ∧ Nq w z r
theorem Vs.mono {s : Vs} {v : Value} {w w' : World} (hq : Q w w') (h : s.holds v w) : s.holds v w' := by
  cases s with
  | any => trivial
  | eq u => exact h
  | num q => exact Nq.q h hq
  | span p q => exact Ns.q h hq
  | pair q c => obtain ⟨r, h1, h2⟩ := h; exact ⟨r, h1, h2.q hq⟩
  | three p q r b => obtain ⟨x, y, z, h1, h2, h3, h4⟩ := h; exact ⟨x, y, z, h1, h2.q hq, h3.q hq, h4.q hq⟩
def SL (l : List Vs) (j : Nat) (v : Value) (w : World) : Prop := (l.getD j .any).holds v w
def isB : Vs → Bool → Bool
  | .eq (.bool c), b => c == b
  | _, _ => false
theorem isB_spec {s : Vs} {b : Bool} (h : isB s b = true) : s = .eq (.bool b) := by
  unfold isB at h
  split at h
  · simp at h; subst h; rfl
  · cases h
section
variable {P : Program} {ops : Array Oper} {Q' : Exit → Act → World → Prop} {l : List Vs} {F : (Nat → Value) → Act} {a : Act} {w1 : World}
structure Ctx (ops : Array Oper) (a : Act) (F : (Nat → Value) → Act) : Prop where
  hsh : (Ja.shape ops && Region.noSelect ops && Ja.inBounds ops a.tmps.size) = true
  hF : ∀ vals, F vals = Ja.fillL vals ops.toList 0 a
theorem Ctx.go (c : Ctx ops a F) : ∀ vals, F vals = Ja.fillGo ops (fun _ => true) vals ops.size a := fun vals => (c.hF vals).trans (Ja.fillL_full vals a)
def guardIs (ops : Array Oper) (l : List Vs) (o : Oper) (yes : Bool) : Bool :=
  match o.guard with
  | none => yes
  | some (g, b) => isB (l.getD g .any) (b == yes) && decide (g < ops.size) && ((ops[g]?).bind (·.dst)).isSome
theorem wanted_is {i : Nat} {o : Oper} {yes : Bool} (c : Ctx ops a F) (ho : ops[i]? = some o) (hg : guardIs ops l o yes = true) {vals : Nat → Value} {w : World}
    (hd : ∀ e ∈ o.after, Region.binds .any e = true → SL l e.on (vals e.on) w) : Region.wanted o (yielded ops (F vals).tmps) = yes := by
  rw [c.go]
  unfold guardIs at hg
  split at hg
  · rename_i h; unfold Region.wanted; rw [h, hg]
  · rename_i g b h
    simp only [Bool.and_eq_true, decide_eq_true_eq] at hg
    obtain ⟨⟨h1, h2⟩, h3⟩ := hg
    have hsh := c.hsh
    simp only [Bool.and_eq_true] at hsh
    obtain ⟨d, hd3⟩ := Option.isSome_iff_exists.1 h3
    obtain ⟨e, he, hb, heq⟩ := (Ja.shape_spec hsh.1.1 ho).2.1 d (by simp [Oper.looksAt, h, hd3]) g hd3
    have hv := hd e he hb
    rw [heq] at hv
    unfold SL at hv
    rw [isB_spec h1] at hv
    have := Ja.wanted_of (a := a) c.hsh h h2 h3 hv
    rw [this]
    cases b <;> cases yes <;> rfl
theorem Each.yes {i : Nat} {o : Oper} (c : Ctx ops a F) (ho : ops[i]? = some o) (hg : guardIs ops l o true = true)
    (h : ∀ (vals : Nat → Value) (w : World), Q w1 w → (∀ j, (o.after.any fun e => Region.binds .any e && e.on == j) = true → SL l j (vals j) w) →
      ∀ K : Act → World → Prop, Hid (∀ v w' a', a' = (F vals).put o.dst v → SL l i v w' → Q w w' → K a' w') → o.wp P (F vals) w K (fun _ _ _ => False)) :
    Ja.Step P ops (Ja.JS Q (SL l) w1) F i o :=
  Ja.JS.step (fun _ _ _ => Q.trans) (fun _ _ _ _ hm hs => Vs.mono hm hs) fun vals w hM hd => by
    rw [if_pos (wanted_is c ho hg hd)]
    intro K hK
    refine h vals w hM (fun j hj => ?_) K (Lib.hid hK)
    obtain ⟨e, he, hb⟩ := Array.any_eq_true'.1 hj
    simp only [Bool.and_eq_true, beq_iff_eq] at hb
    obtain ⟨h1, rfl⟩ := hb
    exact hd e he h1
theorem Each.no {i : Nat} {o : Oper} (c : Ctx ops a F) (ho : ops[i]? = some o) (hg : guardIs ops l o false = true) (hi : SL l i undef w1 ∧ l.getD i .any = .any) :
    Ja.Step P ops (Ja.JS Q (SL l) w1) F i o :=
  Ja.JS.step (fun _ _ _ => Q.trans) (fun _ _ _ _ hm hs => Vs.mono hm hs) fun vals w hM hd => by
    rw [if_neg (by rw [wanted_is c ho hg hd]; decide)]
    unfold SL
    rw [hi.2]
    trivial
theorem region_each {id : Nat} {w : World} (l : List Vs) (hm : P.follows .mixedOrders = true) (hsh : (Ja.shape ops && Region.noSelect ops && Ja.inBounds ops a.tmps.size) = true)
    (hF : ∀ vals, Ja.fillL vals ops.toList 0 a = F vals)
    (hstep : Ctx ops a F → Ja.Steps P ops (Ja.JS Q (SL l) w.drew) F 0 ops.toList)
    (hend : ∀ vals w', Q w w' → (∀ j, j < ops.size → SL l j (vals j) w') → Q' .normal (F vals) w') : (Code.region id ops true).wp P Q' a w :=
  have c : Ctx ops a F := ⟨hsh, fun vals => (hF vals).symm⟩
  Ja.wp_region_each hm hsh c.go (Q.refl _) (hstep c) (fun vals w' hq h => hend vals w' ((Q.refl w).drew.trans hq) h)
theorem text_each {id : Nat} {w : World} (l : List Vs) (hsh : (Ja.shape ops && Region.noSelect ops && Ja.inBounds ops a.tmps.size) = true)
    (hF : ∀ vals, Ja.fillL vals ops.toList 0 a = F vals)
    (hstep : Ctx ops a F → Ja.Steps P ops (Ja.JS Q (SL l) w) F 0 ops.toList)
    (hend : ∀ vals w', Q w w' → (∀ j, j < ops.size → SL l j (vals j) w') → Q' .normal (F vals) w') : (Code.region id ops false).wp P Q' a w :=
  have c : Ctx ops a F := ⟨hsh, fun vals => (hF vals).symm⟩
  Ja.wp_text_each hsh c.go (Q.refl _) (hstep c) hend
end
end Go.Proofs.YtimdddpfoagbjaaGreatDoor
