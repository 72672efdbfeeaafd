/- ValueParses: for every string the law holds: what Check, Parse, Text and Digits return is what the document says. No condition.. Part of the proof: texts Vd1 Vd2 Vd3 Vd4 Vd5 Vd6 Vd7 Ve1. -/
import Derived.Test.YtgpacgadpnpjjaaGreatDoorQp04
import Derived.Test.YtgpacgadpnpjjaaGreatDoorQp05
import Derived.Test.YtgpacgadpnpjjaaGreatDoorQp15
set_option maxHeartbeats 1000000
namespace Go.Proofs.YtgpacgadpnpjjaaGreatDoor
open Go.RowKit
open Ma Me
def bt (d : Nat) : Nat := if d = 1 then 0 else d
def Nf (w : World) (v : Value) (s : Bool) (N D : Nat) : Prop := ∃ t b, v = .agg #[.bool s, t, b] ∧ Nm w t N ∧ Nm w b D
theorem Nf.q {w w' : World} {v : Value} {s : Bool} {N D : Nat} (h : Nf w v s N D) (hq : Q w w') : Nf w' v s N D := by
 obtain ⟨t, b, h1, h2, h3⟩ := h;exact ⟨t, b, h1, h2.q hq, h3.q hq⟩
def Nb (w : World) (g : Nat) (s : Bool) (t b : Value) : Prop := w.heap[g]? = some (.cells #[.bool s, t, b] 25 (0, 0))
theorem Nb.cells {w : World} {g : Nat} {s : Bool} {t b : Value} (h : Nb w g s t b) : w.cell? ⟨g, 0, none⟩ = some (.bool s) ∧ w.cell? ⟨g, 1, none⟩ = some t ∧ w.cell? ⟨g, 2, none⟩ = some b := by
 unfold Nb at h;refine ⟨?_, ?_, ?_⟩ <;> simp [World.cell?, h]
theorem Nb.frozen {w : World} {g : Nat} {s : Bool} {t b : Value} (h : Nb w g s t b) (i : Nat) : w.frozen? ⟨g, i, none⟩ = false := by
 unfold Nb at h;simp [World.frozen?, h]
theorem Nb.lt {w : World} {g : Nat} {s : Bool} {t b : Value} (h : Nb w g s t b) : g < w.heap.size := by
 rcases Nat.lt_or_ge g w.heap.size with hlt | hge
 ·exact hlt
 ·unfold Nb at h; rw [Array.getElem?_eq_none hge] at h; cases h
theorem Nb.q {w w' : World} {g : Nat} {s : Bool} {t b : Value} (h : Nb w g s t b) (hq : Q w w') : Nb w' g s t b := (hq.heap h.lt).trans h
theorem Nb.new (w : World) (s : Bool) (t b : Value) : Nb (w.alloc (.cells #[.bool s, t, b] 25)) w.heap.size s t b := heap_alloc_new w _
def put3 (w : World) (g : Nat) (s : Bool) (t b : Value) : World := ((w.setCell ⟨g, 0, none⟩ (.bool s)).setCell ⟨g, 1, none⟩ t).setCell ⟨g, 2, none⟩ b
theorem Nb.put {w : World} {g : Nat} {s s' : Bool} {t b t' b' : Value} (h : Nb w g s' t' b') : Nb (put3 w g s t b) g s t b := by
 unfold Nb at h ⊢;unfold put3;simp [World.setCell, Array.getElem?_modify, h]
theorem nT {a w : World} {g : Nat} {s : Bool} {t b : Value} (h : Q a w) (hg : a.heap.size ≤ g) : Q a (put3 w g s t b) :=
 ((h.setCell (p := ⟨g, 0, none⟩) hg _).setCell (p := ⟨g, 1, none⟩) hg _).setCell (p := ⟨g, 2, none⟩) hg _
theorem aCl {w : World} {g k : Nat} {s : Bool} {t b : Value} (h : k ≠ g) : (put3 w g s t b).heap[k]? = w.heap[k]? := by
 unfold put3;rw [Below.heap_setCell _ _ _ _ h, Below.heap_setCell _ _ _ _ h, Below.heap_setCell _ _ _ _ h]
theorem aCm {w : World} {g : Nat} {s : Bool} {t b : Value} : (put3 w g s t b).heap.size = w.heap.size := by
 unfold put3; simp
theorem Me.Nm.put3 {w : World} {x : Value} {N g : Nat} {s s' : Bool} {A1 A2 : Option Addr} {n1 c1 n2 c2 : Nat} {t' b' : Value} (h : Nm w x N) (hb : Nb w g s (.slice A1 n1 c1) (.slice A2 n2 c2)) : Nm (put3 w g s' t' b') x N := by
 obtain ⟨A, c, ws, rfl, h2, h3, h4, h5⟩ := h;refine ⟨A, c, ws, rfl, h2, fun hn => ?_, h4, h5⟩;obtain ⟨bl, o, rfl, hlt, hc⟩ := h3 hn;have hne : bl ≠ g := by
  rintro rfl;have h6 := hc 0 _ (List.getElem?_eq_getElem hn);unfold Nb at hb;simp [World.cell?, hb] at h6;rcases o with _ | _ | _ | o
  ·simp at h6
  ·simp at h6
  ·simp at h6
  ·simp at h6
 refine ⟨bl, o, rfl, by rw [aCm]; exact hlt, fun j d hd => ?_⟩;have := hc j d hd;unfold World.cell? at this ⊢;rw [aCl hne];exact this
theorem Nf.put3 {w : World} {v : Value} {N D g : Nat} {s0 s s' : Bool} {A1 A2 : Option Addr} {n1 c1 n2 c2 : Nat} {t' b' : Value} (h : Nf w v s0 N D) (hb : Nb w g s (.slice A1 n1 c1) (.slice A2 n2 c2)) : Nf (put3 w g s' t' b') v s0 N D := by
 obtain ⟨t, b, h1, h2, h3⟩ := h;exact ⟨t, b, h1, h2.put3 hb, h3.put3 hb⟩
theorem dW (s : Bool) (t b : Value) (N D : Nat) (w : World) (ht : Nm w t N) (hb : Nm w b D) : Calls Tryz.prog 76 #[.bool s, t, b] w
  fun e w' => ∃ v, e = .returned v ∧ Nf w' v (decide (0 < N) && s) N (if N = 0 then 0 else bt D) ∧ Q w w' := by
 obtain ⟨A, c, rfl, hc⟩ := ht.parts;obtain ⟨A2, c2, rfl, hc2⟩ := hb.parts;obtain ⟨L, hL⟩ : ∃ L, dg W64 N = L := ⟨_, rfl⟩
 obtain ⟨L2, hL2⟩ : ∃ L, dg W64 D = L := ⟨_, rfl⟩
 rw [hL] at hc ht ⊢;rw [hL2] at hc2 hb ⊢;have hz : L = 0 ↔ N = 0 := by
  rw [← hL];exact ⟨fun h => aW aB h, fun h => by rw [h, aQ]⟩
 have HZ := Lib.hid hz;clear hL hL2 hz;have hq0 : Q w (w.alloc (.cells #[.bool false, .slice none 0 0, .slice none 0 0] 25)) := (Q.refl _).alloc _;have hn0 := Nb.new w false (.slice none 0 0) (.slice none 0 0);have hfz := hn0.frozen;obtain ⟨e0, e1, e2⟩ := hn0.cells;rcases Nat.eq_zero_or_pos L with h0 | h0
 ·have k1 : ((L : Int) == 0) = true := (by rw [h0]; rfl);have hN := HZ.out.1 h0;have HN := Lib.hid hN; clear hN h0;go_enter Tryz.func76, Tryz.ntmps76
  go_wp2_with fail
  have hqF : Q w (w.alloc (.cells #[.bool false, .slice none 0 0, .slice none 0 0] 25)) := (Q.refl _).alloc _;refine bodyPost_ret (v := .agg #[.bool false, .slice none 0 0, .slice none 0 0]) (by simp [results, Tryz.results76, go_sem]) rfl ?_;refine ⟨_, rfl, ?_, hqF⟩;exact ⟨_, _, rfl, Nm.zero _ _, Nm.zero _ _⟩
 ·have k1 : ((L : Int) == 0) = false := beq_eq_false_iff_ne.2 (by omega);have hN : N ≠ 0 := fun h => (by have := HZ.out.2 h; omega);have hN0 : decide (0 < N) = true := (by simp; omega);have hres : (if N = 0 then 0 else bt D) = bt D := (by rw [if_neg hN]);rw [hres, hN0, Bool.true_and];have ht1 := ht.q hq0;have hb1 := hb.q hq0;go_enter Tryz.func76, Tryz.ntmps76
  go_wp2_with fail
  refine (vJ _ D _ hb1).mono ?_;rintro e w1 ⟨rfl, rfl⟩;by_cases h1 : D = 1
  ·have k2 : decide (D = 1) = true := (by simp [h1]);rw [k2];go_wp2_with fail
   have hqF : Q w (w.alloc (.cells #[.bool s, .slice A L c, .slice none 0 0] 25)) := (Q.refl _).alloc _;refine bodyPost_ret (v := .agg #[.bool s, .slice A L c, .slice none 0 0]) (by simp [results, Tryz.results76, go_sem]) rfl ?_;refine ⟨_, rfl, ⟨_, _, rfl, ht.q hqF, ?_⟩, hqF⟩;rw [show bt D = 0 from by simp [bt, h1]];exact Nm.zero _ _
  ·have k2 : decide (D = 1) = false := (by simp [h1]);rw [k2];go_wp2_with fail
   have hqF : Q w (w.alloc (.cells #[.bool s, .slice A L c, .slice A2 L2 c2] 25)) := (Q.refl _).alloc _;refine bodyPost_ret (v := .agg #[.bool s, .slice A L c, .slice A2 L2 c2]) (by simp [results, Tryz.results76, go_sem]) rfl ?_;refine ⟨_, rfl, ⟨_, _, rfl, ht.q hqF, ?_⟩, hqF⟩;rw [show bt D = D from by simp [bt, h1]];exact hb.q hqF
theorem Nf.form {w : World} {v : Value} {s : Bool} {N D : Nat} (h : Nf w v s N D) : ∃ A c A2 c2, v = .agg #[.bool s, .slice A (dg W64 N) c, .slice A2 (dg W64 D) c2] ∧ Nm w (.slice A (dg W64 N) c) N ∧ Nm w (.slice A2 (dg W64 D) c2) D := by
 obtain ⟨t, b, rfl, h2, h3⟩ := h;obtain ⟨A, c, rfl, hc⟩ := h2.parts;obtain ⟨A2, c2, rfl, hc2⟩ := h3.parts;exact ⟨A, c, A2, c2, rfl, h2, h3⟩
theorem fZ (s : Bool) (t : Value) (N : Nat) (w : World) (ht : Nm w t N) : Calls Tryz.prog 72 #[.bool s, t] w
  fun e w' => ∃ v, e = .returned v ∧ Nf w' v (decide (0 < N) && s) N 0 ∧ Q w w' := by
 obtain ⟨A, c, rfl, hc⟩ := ht.parts;obtain ⟨s1, hs1⟩ : ∃ s1, (decide (0 < N) && s) = s1 := ⟨_, rfl⟩
 rw [hs1];have HS := Lib.hid hs1; clear hs1;have hq0 : Q w (w.alloc (.cells #[.bool false, .slice none 0 0, .slice none 0 0] 25)) := (Q.refl _).alloc _;have hn0 := Nb.new w false (.slice none 0 0) (.slice none 0 0);have ht1 := ht.q hq0;go_enter Tryz.func72, Tryz.ntmps72
 go_wp2_with fail
 refine (dW s _ _ N 0 _ ht1 (Nm.zero _ _)).mono ?_;rintro e w1 ⟨v, rfl, hv, hq1⟩;rw [show (if N = 0 then 0 else bt 0) = 0 from by split <;> rfl] at hv;rw [HS.out] at hv;obtain ⟨A1, c1, A2, c2, rfl, hv1, hv2⟩ := hv.form;have hn1 := hn0.q hq1;have hfz := hn1.frozen;obtain ⟨e0, e1, e2⟩ := hn1.cells;generalize w.alloc (.cells #[.bool false, .slice none 0 0, .slice none 0 0] 25) = w0 at *
 generalize dg W64 N = L at *
 generalize dg W64 0 = L2 at *
 go_wp2_with fail
 have hF := hn1.put (s := s1) (t := .slice A1 L c1) (b := .slice A2 L2 c2);have hqF := nT (g := w.heap.size) (s := s1) (t := .slice A1 L c1) (b := .slice A2 L2 c2) (hq0.trans hq1) (Nat.le_refl _);have hvF := hv.put3 (s' := s1) (t' := .slice A1 L c1) (b' := .slice A2 L2 c2) hn1;obtain ⟨r0, r1, r2⟩ := hF.cells;unfold put3 at r0 r1 r2 hqF hvF;refine bodyPost_ret (v := .agg #[.bool s1, .slice A1 L c1, .slice A2 L2 c2]) (by simp [results, Tryz.results72, go_sem, r0, r1, r2]) rfl ?_;exact ⟨_, rfl, hvF, hqF⟩
theorem tJ {D : Nat} : dg W64 D = 0 ↔ D = 0 := ⟨fun h => aW aB h, fun h => by rw [h, aQ]⟩
theorem aEr (v : Value) (s : Bool) (N D : Nat) (w : World) (hv : Nf w v s N D) : Calls Tryz.prog 88 #[v] w fun e w' => e = .returned (.bool (decide (D = 0))) ∧ Q w w' := by
 obtain ⟨A1, c1, A2, c2, rfl, hv1, hv2⟩ := hv.form;have hz := tJ (D := D);generalize dg W64 N = L at *
 generalize dg W64 D = L2 at *
 have hq0 : Q w (w.alloc (.cells #[.bool s, .slice A1 L c1, .slice A2 L2 c2] 25)) := (Q.refl _).alloc _;have hn0 := Nb.new w s (.slice A1 L c1) (.slice A2 L2 c2);have hfz := hn0.frozen;obtain ⟨e0, e1, e2⟩ := hn0.cells;have k1 : ((L2 : Int) == 0) = decide (D = 0) := by
  by_cases h : L2 = 0
  ·have := hz.1 h; simp [h, this]
  ·have h2 : ¬ D = 0 := fun h3 => h (hz.2 h3);rw [decide_eq_false h2]; exact beq_eq_false_iff_ne.2 (by omega)
 clear hz;go_enter Tryz.func88, Tryz.ntmps88
 go_wp2_with fail
 go_ret
 exact ⟨rfl, hq0⟩
theorem aAM (v : Value) (s : Bool) (N D : Nat) (w : World) (hv : Nf w v s N D) : Calls Tryz.prog 135 #[v] w fun e w' => ∃ r, e = .returned r ∧ Nm w' r (if D = 0 then 1 else D) ∧ Q w w' := by
 obtain ⟨A1, c1, A2, c2, rfl, hv1, hv2⟩ := hv.form;have hz := tJ (D := D);generalize dg W64 N = L at *
 generalize dg W64 D = L2 at *
 have hq0 : Q w (w.alloc (.cells #[.bool s, .slice A1 L c1, .slice A2 L2 c2] 25)) := (Q.refl _).alloc _;have hn0 := Nb.new w s (.slice A1 L c1) (.slice A2 L2 c2);have hfz := hn0.frozen;obtain ⟨e0, e1, e2⟩ := hn0.cells;rcases Nat.eq_zero_or_pos L2 with h | h
 ·have k1 : ((L2 : Int) == 0) = true := (by rw [h]; rfl);have hD := hz.1 h;rw [if_pos hD];clear hz h hD;go_enter Tryz.func135, Tryz.ntmps135
  go_wp2_with fail
  refine (fB 1 1 _ rfl (by decide)).mono ?_;rintro e w7 ⟨ov, rfl, hov, hq7', -⟩;go_wp2_with fail
  go_ret
  exact ⟨_, rfl, hov, hq0.trans hq7'⟩
 ·have k1 : ((L2 : Int) == 0) = false := beq_eq_false_iff_ne.2 (by omega);have hD : ¬ D = 0 := fun h3 => (by have := hz.2 h3; omega);rw [if_neg hD];clear hz h hD;go_enter Tryz.func135, Tryz.ntmps135
  go_wp2_with fail
  go_ret
  exact ⟨_, rfl, hv2.q hq0, hq0⟩
theorem aFg (v : Value) (s : Bool) (N D : Nat) (w : World) (hv : Nf w v s N D) : Calls Tryz.prog 100 #[v] w fun e w' => ∃ r, e = .returned r ∧ Nf w' r false N D ∧ Q w w' := by
 obtain ⟨A1, c1, A2, c2, rfl, hv1, hv2⟩ := hv.form;generalize dg W64 N = L at *
 generalize dg W64 D = L2 at *
 have hq0 : Q w (w.alloc (.cells #[.bool s, .slice A1 L c1, .slice A2 L2 c2] 25)) := (Q.refl _).alloc _;have hn0 := Nb.new w s (.slice A1 L c1) (.slice A2 L2 c2);have hfz := hn0.frozen;obtain ⟨e0, e1, e2⟩ := hn0.cells;have hqq := hq0.alloc (.cells #[.bool false, .slice A1 L c1, .slice A2 L2 c2] 25);go_enter Tryz.func100, Tryz.ntmps100
 go_wp2_with fail
 refine bodyPost_ret (v := .agg #[.bool false, .slice A1 L c1, .slice A2 L2 c2]) (by simp [results, Tryz.results100, go_sem]) rfl ?_;exact ⟨_, rfl, ⟨_, _, rfl, hv1.q hqq, hv2.q hqq⟩, hqq⟩
theorem aDD (z : Int) (w : World) (h0 : -9223372036854775808 ≤ z) (h1 : z ≤ 9223372036854775807) : Calls Tryz.prog 138 #[.int .i64 z] w fun e w' => e = .returned (.int .u64 (z.natAbs : Int)) ∧ w' = w := by
 by_cases hs : z < 0
 ·have k1 : IntKind.u64.wrap z = z + 18446744073709551616 := by
   rw [IntKind.wrap_u64]; omega
  have k2 : IntKind.u64.wrap (-(z + 18446744073709551616)) = (z.natAbs : Int) := (by rw [IntKind.wrap_u64]; omega);go_enter Tryz.func138, Tryz.ntmps138
  go_wp2_with fail
  go_ret
  exact ⟨rfl, rfl⟩
 ·have k1 : IntKind.u64.wrap z = (z.natAbs : Int) := (by rw [IntKind.wrap_u64]; omega);have k2 : z ≤ 0 ∨ 0 ≤ z := (by omega);go_enter Tryz.func138, Tryz.ntmps138
  go_wp2_with fail
  go_ret
  exact ⟨rfl, rfl⟩
theorem aFD (z : Int) (w : World) (h0 : -9223372036854775808 ≤ z) (h1 : z ≤ 9223372036854775807) : Calls Tryz.prog 68 #[.int .i64 z] w fun e w' => ∃ r, e = .returned r ∧ Nf w' r (decide (z < 0)) z.natAbs 0 ∧ Q w w' := by
 have hq0 : Q w (w.alloc (.cells #[.bool false, .slice none 0 0, .slice none 0 0] 25)) := (Q.refl _).alloc _;have hn0 := Nb.new w false (.slice none 0 0) (.slice none 0 0);obtain ⟨N, hN⟩ : ∃ N, z.natAbs = N := ⟨_, rfl⟩
 have hs : (decide (0 < N) && decide (z < 0)) = decide (z < 0) := by
  by_cases h : z < 0
  ·rw [decide_eq_true h, decide_eq_true (by omega)]; rfl
  ·rw [decide_eq_false h, Bool.and_false]
 have hb : N < 18446744073709551616 := by omega
 rw [hN];go_enter Tryz.func68, Tryz.ntmps68
 go_wp2_with fail
 refine (aDD z _ h0 h1).mono ?_;rintro e w1 ⟨rfl, rfl⟩;rw [hN];have HS := Lib.hid hs;clear hs hN;go_wp2_with fail
 refine (fB _ N _ rfl hb).mono ?_;rintro e w1 ⟨nv, rfl, hnv, hq1, -⟩;obtain ⟨An, kn, cn, rfl⟩ := hnv.form;have hn1 := hn0.q hq1;have hq01 := hq0.trans hq1;go_wp2_with fail
 refine (fZ (decide (z < 0)) _ N _ hnv).mono ?_;rintro e w2 ⟨v, rfl, hv, hq2⟩;rw [HS.out] at hv;obtain ⟨A1, c1, A2, c2, rfl, hv1, hv2⟩ := hv.form;have hn2 := hn1.q hq2;have hfz := hn2.frozen;obtain ⟨e0, e1, e2⟩ := hn2.cells;generalize w.alloc (.cells #[.bool false, .slice none 0 0, .slice none 0 0] 25) = w0 at *
 generalize dg W64 N = L at *
 generalize dg W64 0 = L2 at *
 have hF := hn2.put (s := decide (z < 0)) (t := .slice A1 L c1) (b := .slice A2 L2 c2);have hqF := nT (g := w.heap.size) (s := decide (z < 0)) (t := .slice A1 L c1) (b := .slice A2 L2 c2) (hq01.trans hq2) (Nat.le_refl _);have hvF := hv.put3 (s' := decide (z < 0)) (t' := .slice A1 L c1) (b' := .slice A2 L2 c2) hn2;obtain ⟨r0, r1, r2⟩ := hF.cells;unfold put3 at r0 r1 r2 hqF hvF;go_wp2_with fail
 refine bodyPost_ret (v := .agg #[.bool (decide (z < 0)), .slice A1 L c1, .slice A2 L2 c2]) (by simp [results, Tryz.results68, go_sem, r0, r1, r2]) rfl ?_;exact ⟨_, rfl, hvF, hqF⟩
def sg (s : Bool) (N : Nat) : Int := if s then -(N : Int) else N
def un (d : Nat) : Nat := if d = 0 then 1 else d
theorem rO {d : Nat} (h : 0 < d) : un (bt d) = d := by unfold un bt; split <;> split <;> omega
theorem iC (x y : Value) (N M : Nat) (w : World) (hT : Tb w) (hx : Nm w x N) (hy : Nm w y M) (hN0 : 0 < N) (hB : 8 * (dg W64 N + dg W64 M) + 80 ≤ LIM) : Calls Tryz.prog 105 #[x, y] w
  fun e w' => ∃ a b, e = .returned (.tuple #[a, b]) ∧ Nm w' a (N / Nat.gcd N (un M)) ∧ Nm w' b (un M / Nat.gcd N (un M)) ∧ Q w w' := by
 obtain ⟨A1, k1, c1, rfl⟩ := hx.form;obtain ⟨A2, c2, rfl, hc2⟩ := hy.parts;rcases Nat.eq_zero_or_pos M with h | h
 ·subst h;have e1 : N / Nat.gcd N (un 0) = N := (by simp [un]);have e2 : un 0 / Nat.gcd N (un 0) = 1 := (by simp [un]);rw [e1, e2];rw [aQ] at hy hc2 ⊢;go_enter Tryz.func105, Tryz.ntmps105
  go_wp2_with fail
  refine (fB 1 1 _ rfl (by decide)).mono ?_;rintro e w7 ⟨ov, rfl, hov, hq, -⟩;go_wp2_with fail
  go_ret2
  exact ⟨_, _, rfl, hx.q hq, hov, hq⟩
 ·have hz := tJ (D := M);obtain ⟨L, hL⟩ : ∃ L, dg W64 M = L := ⟨_, rfl⟩
  rw [hL] at hz hy hc2 hB ⊢;have k1 : ((L : Int) == 0) = false := beq_eq_false_iff_ne.2 (by omega);have eu : un M = M := (by unfold un; rw [if_neg (by omega)]);rw [eu];have HL := Lib.hid hL; clear hL hz eu;have hG0 : 0 < Nat.gcd N M := Nat.gcd_pos_of_pos_left M hN0;have hG1 : dg W64 (Nat.gcd N M) ≤ dg W64 N := aR aB (Nat.gcd_le_left M hN0);have hB1 : 4 * (dg W64 N + dg W64 (Nat.gcd N M)) + 60 ≤ LIM := (by rw [aA] at *; omega);have hB2 : 4 * (dg W64 M + dg W64 (Nat.gcd N M)) + 60 ≤ LIM := (by rw [aA] at *; rw [HL.out]; omega);have HB := Lib.hid (show 8 * (dg W64 N + dg W64 M) + 80 ≤ LIM from by rw [HL.out]; exact hB);clear hB hG1;go_enter Tryz.func105, Tryz.ntmps105
  go_wp2_with fail
  refine (wR N M _ _ _ hT hx hy hN0 h HB.out).mono ?_;rintro e w1 ⟨dv, rfl, hd, hq1, -⟩;obtain ⟨A3, k3, c3, rfl⟩ := hd.form;go_wp2_with fail
  refine (wQ N (Nat.gcd N M) _ _ _ (hT.q hq1) (hx.q hq1) hd hG0 hB1).mono ?_;rintro e w2 ⟨av, rfl, ha, hq2, -⟩;have hq12 := hq1.trans hq2;go_wp2_with fail
  refine (wQ M (Nat.gcd N M) _ _ _ (hT.q hq12) (hy.q hq12) (hd.q hq2) hG0 hB2).mono ?_;rintro e w3 ⟨bv, rfl, hb, hq3, -⟩;go_wp2_with fail
  go_ret2
  exact ⟨_, _, rfl, ha.q hq3, hb, hq12.trans hq3⟩
theorem aCn (v : Value) (s : Bool) (N D : Nat) (w : World) (hv : Nf w v s N D) : Calls Tryz.prog 118 #[v] w fun e w' => ∃ r, e = .returned r ∧ Nf w' r s (un D) (bt N) ∧ Q w w' := by
 obtain ⟨A1, c1, A2, c2, rfl, hv1, hv2⟩ := hv.form;have hu : 0 < un D := by unfold un; split <;> omega
 have hres : (if un D = 0 then 0 else bt N) = bt N := by rw [if_neg (by omega)]
 have hs : (decide (0 < un D) && s) = s := by rw [decide_eq_true hu]; rfl
 have HR := Lib.hid hres; have HS := Lib.hid hs;clear hres hs;generalize dg W64 N = L at *
 generalize dg W64 D = L2 at *
 have hq0 : Q w (w.alloc (.cells #[.bool s, .slice A1 L c1, .slice A2 L2 c2] 25)) := (Q.refl _).alloc _;have hn0 := Nb.new w s (.slice A1 L c1) (.slice A2 L2 c2);have hq1 := hq0.alloc (.cells #[.bool false, .slice none 0 0, .slice none 0 0] 25);have hn1 : Nb ((w.alloc (.cells #[.bool s, .slice A1 L c1, .slice A2 L2 c2] 25)).alloc (.cells #[.bool false, .slice none 0 0, .slice none 0 0] 25)) w.heap.size s (.slice A1 L c1) (.slice A2 L2 c2) := hn0.q ((Q.refl _).alloc _);have hm1 : Nb ((w.alloc (.cells #[.bool s, .slice A1 L c1, .slice A2 L2 c2] 25)).alloc (.cells #[.bool false, .slice none 0 0, .slice none 0 0] 25)) (w.heap.size + 1) false (.slice none 0 0) (.slice none 0 0) := by
  have h := Nb.new (w.alloc (.cells #[.bool s, .slice A1 L c1, .slice A2 L2 c2] 25)) false (.slice none 0 0) (.slice none 0 0)
  rwa [World.size_alloc] at h
 go_enter Tryz.func118, Tryz.ntmps118
 go_wp2_with fail
 generalize (w.alloc (.cells #[.bool s, .slice A1 L c1, .slice A2 L2 c2] 25)).alloc (.cells #[.bool false, .slice none 0 0, .slice none 0 0] 25) = w1 at *
 obtain ⟨e0, e1, e2⟩ := hn1.cells;have hlt := hn1.lt;have hv' := hv.q hq1;have hv1' := hv1.q hq1;clear hq0 hn0
 go_region_held3 (fun W => W.cell? ⟨w.heap.size, 0, none⟩ = some (.bool s) ∧ W.cell? ⟨w.heap.size, 1, none⟩ = some (.slice A1 L c1) ∧ W.cell? ⟨w.heap.size, 2, none⟩ = some (.slice A2 L2 c2)) (first | exact ⟨e0, e1, e2⟩ | exact ⟨by assumption, by assumption, by assumption⟩ | go_keep) (first
  | (go_at_call 135; refine (aAM _ s N D _ (by exact hv')).mono ?_; rintro e w2 ⟨r, rfl, hr, hq2d⟩; have hq2 : Q w1 w2 := (Q.refl w1).drew.trans hq2d; obtain ⟨Ar, kr, cr, rfl⟩ := hr.form; have k0 := (hq2.cell (p := ⟨w.heap.size, 0, none⟩) (by exact hlt)).trans (by exact e0); have k1 := (hq2.cell (p := ⟨w.heap.size, 1, none⟩) (by exact hlt)).trans (by exact e1); have k2 := (hq2.cell (p := ⟨w.heap.size, 2, none⟩) (by exact hlt)).trans (by exact e2))
  | (go_at_call 76; refine (dW s _ _ (un D) N _ (by exact hr) (hv1'.q hq2)).mono ?_; rintro e w3 ⟨v3, rfl, hv3, hq3⟩; rw [HR.out, HS.out] at hv3; obtain ⟨A5, c5, A6, c6, rfl, hv5, hv6⟩ := hv3.form; have hm3 := (hm1.q hq2).q hq3; have hfz := hm3.frozen; obtain ⟨l0, l1, l2⟩ := hm3.cells; have j0 := (hq3.cell (p := ⟨w.heap.size, 0, none⟩) (Nat.lt_of_lt_of_le hlt hq2.size)).trans k0; have j1 := (hq3.cell (p := ⟨w.heap.size, 1, none⟩) (Nat.lt_of_lt_of_le hlt hq2.size)).trans k1; have j2 := (hq3.cell (p := ⟨w.heap.size, 2, none⟩) (Nat.lt_of_lt_of_le hlt hq2.size)).trans k2))
 all_goals
  have hF := hm3.put (s := s) (t := .slice A5 (dg W64 (un D)) c5) (b := .slice A6 (dg W64 (bt N)) c6);have hqF := nT (g := w.heap.size + 1) (s := s) (t := .slice A5 (dg W64 (un D)) c5) (b := .slice A6 (dg W64 (bt N)) c6) ((hq1.trans hq2).trans hq3) (Nat.le_succ _);have hvF := hv3.put3 (s' := s) (t' := .slice A5 (dg W64 (un D)) c5) (b' := .slice A6 (dg W64 (bt N)) c6) hm3;obtain ⟨r0, r1, r2⟩ := hF.cells;unfold put3 at r0 r1 r2 hqF hvF;go_wp2_with fail
  refine bodyPost_ret (v := .agg #[.bool s, .slice A5 (dg W64 (un D)) c5, .slice A6 (dg W64 (bt N)) c6]) (by simp [results, Tryz.results118, go_sem, r0, r1, r2]) rfl ?_;exact ⟨_, rfl, hvF, hqF⟩
def Nq (w : World) (v : Value) (q : Rat) : Prop := Nf w v (decide (q.num < 0)) q.num.natAbs (bt q.den)
theorem Nq.q {w w' : World} {v : Value} {q : Rat} (h : Nq w v q) (hq : Q w w') : Nq w' v q := Nf.q h hq
theorem zK (q : Rat) : sg (decide (q.num < 0)) q.num.natAbs = q.num := by
 unfold sg;by_cases h : q.num < 0
 ·rw [if_pos (decide_eq_true h)]; omega
 ·rw [if_neg (by rw [decide_eq_false h]; decide)]; omega
theorem Nq.of {w : World} {v : Value} {s : Bool} {N D : Nat} {q : Rat} (h : Nf w v s N (bt D)) (hs : s = true → 0 < N) (hn : q.num = sg s N) (hd : q.den = D) : Nq w v q := by
 have e1 : decide (q.num < 0) = s := by
  rw [hn];cases s
  ·exact decide_eq_false (by simp [sg])
  ·have := hs rfl;exact decide_eq_true (by simp only [sg, if_pos]; omega)
 have e2 : q.num.natAbs = N := by
  rw [hn]; cases s <;> simp [sg]
 unfold Nq;rw [e1, e2, hd];exact h
theorem sJ (q : Rat) : bt q.den = 0 ↔ q.den = 1 := by
 have := q.den_pos;unfold bt; split <;> omega
theorem uR (z : Int) (w : World) (h0 : -9223372036854775808 ≤ z) (h1 : z ≤ 9223372036854775807) : Calls Tryz.prog 68 #[.int .i64 z] w fun e w' => ∃ r, e = .returned r ∧ Nq w' r (z : Rat) ∧ Q w w' := by
 refine (aFD z w h0 h1).mono ?_;rintro e w' ⟨r, h1, h2, h3⟩;refine ⟨r, h1, ?_, h3⟩;unfold Nq;rw [Rat.num_intCast, Rat.den_intCast];exact h2
theorem iM (v : Value) (q : Rat) (w : World) (hv : Nq w v q) : Calls Tryz.prog 88 #[v] w fun e w' => e = .returned (.bool (decide (q.den = 1))) ∧ Q w w' := by
 refine (aEr v _ _ _ w hv).mono ?_;rintro e w' ⟨h1, h2⟩;refine ⟨?_, h2⟩;rw [h1];congr 2;exact decide_eq_decide.2 (sJ q)
theorem eU (v : Value) (q : Rat) (w : World) (hv : Nq w v q) : Calls Tryz.prog 135 #[v] w fun e w' => ∃ r, e = .returned r ∧ Nm w' r q.den ∧ Q w w' := by
 refine (aAM v _ _ _ w hv).mono ?_;rintro e w' ⟨r, h1, h2, h3⟩;refine ⟨r, h1, ?_, h3⟩;have e : (if bt q.den = 0 then 1 else bt q.den) = q.den := rO q.den_pos;rw [e] at h2;exact h2
theorem aCo (v : Value) (q : Rat) (w : World) (hv : Nq w v q) (h0 : q.num ≠ 0) : Calls Tryz.prog 118 #[v] w fun e w' => ∃ r, e = .returned r ∧ Nq w' r q⁻¹ ∧ Q w w' := by
 refine (aCn v _ _ _ w hv).mono ?_;rintro e w' ⟨r, h1, h2, h3⟩;refine ⟨r, h1, ?_, h3⟩;have e1 : un (bt q.den) = q.den := rO q.den_pos;rw [e1] at h2;refine Nq.of h2 (fun _ => q.den_pos) ?_ ?_
 ·rw [Rat.num_inv];by_cases h : q.num < 0
  ·rw [decide_eq_true h, Int.sign_eq_neg_one_of_neg h]; simp [sg]
  ·rw [decide_eq_false h, Int.sign_eq_one_of_pos (by omega)]; simp [sg]
 ·rw [Rat.den_inv, if_neg h0]
theorem Nq.form {w : World} {v : Value} {q : Rat} (h : Nq w v q) : ∃ s A1 n1 c1 A2 n2 c2, v = .agg #[.bool s, .slice A1 n1 c1, .slice A2 n2 c2] ∧ Hid (s = decide (q.num < 0)) ∧ Hid (n1 = 0 ↔ q = 0) ∧ Hid (n2 = 0 ↔ q.den = 1) ∧ Nm w (.slice A1 n1 c1) q.num.natAbs ∧ Nm w (.slice A2 n2 c2) (bt q.den) := by
 obtain ⟨A1, c1, A2, c2, rfl, h1, h2⟩ := Nf.form h;refine ⟨_, _, _, _, _, _, _, rfl, Lib.hid rfl, Lib.hid ?_, Lib.hid ?_, h1, h2⟩
 ·rw [tJ];constructor
  ·intro h3; exact Rat.num_eq_zero.1 (by omega)
  ·intro h3; rw [h3]; rfl
 ·rw [tJ, sJ]
theorem Nq.apart {w : World} {v : Value} {q : Rat} {g : Nat} {s s' : Bool} {A1 A2 : Option Addr} {n1 c1 n2 c2 : Nat} {t' b' : Value} (h : Nq w v q) (hb : Nb w g s (.slice A1 n1 c1) (.slice A2 n2 c2)) : Nq (put3 w g s' t' b') v q := Nf.put3 h hb
theorem vP (w : World) (s1 : Bool) (t1 b1 : Value) (s2 : Bool) (t2 b2 : Value) : ∃ W, ((w.alloc (.cells #[.bool s1, t1, b1] 25)).alloc (.cells #[.bool s2, t2, b2] 25)).alloc (.cells #[.bool false, .slice none 0 0, .slice none 0 0] 25) = W ∧
  Q w W ∧ Nb W w.heap.size s1 t1 b1 ∧ Nb W (w.heap.size + 1) s2 t2 b2 ∧ Nb W (w.heap.size + 1 + 1) false (.slice none 0 0) (.slice none 0 0) := by
 have h1 := Nb.new w s1 t1 b1;have h2 := Nb.new (w.alloc (.cells #[.bool s1, t1, b1] 25)) s2 t2 b2;have h3 := Nb.new ((w.alloc (.cells #[.bool s1, t1, b1] 25)).alloc (.cells #[.bool s2, t2, b2] 25)) false (.slice none 0 0) (.slice none 0 0);rw [World.size_alloc] at h2 h3;rw [World.size_alloc] at h3;exact ⟨_, rfl, (((Q.refl _).alloc _).alloc _).alloc _, (h1.q ((Q.refl _).alloc _)).q ((Q.refl _).alloc _), h2.q ((Q.refl _).alloc _), h3⟩
theorem qK (w : World) (s1 : Bool) (t1 b1 : Value) (s2 : Bool) (t2 b2 : Value) : ∃ W, (w.alloc (.cells #[.bool s1, t1, b1] 25)).alloc (.cells #[.bool s2, t2, b2] 25) = W ∧ Q w W ∧ Nb W w.heap.size s1 t1 b1 ∧ Nb W (w.heap.size + 1) s2 t2 b2 := by
 have h1 := Nb.new w s1 t1 b1;have h2 := Nb.new (w.alloc (.cells #[.bool s1, t1, b1] 25)) s2 t2 b2;rw [World.size_alloc] at h2;exact ⟨_, rfl, ((Q.refl _).alloc _).alloc _, h1.q ((Q.refl _).alloc _), h2⟩
theorem vQ (w : World) (s1 : Bool) (t1 b1 : Value) : ∃ W, (w.alloc (.cells #[.bool s1, t1, b1] 25)).alloc (.cells #[.bool false, .slice none 0 0, .slice none 0 0] 25) = W ∧ Q w W ∧ Nb W w.heap.size s1 t1 b1 ∧ Nb W (w.heap.size + 1) false (.slice none 0 0) (.slice none 0 0) := qK w s1 t1 b1 false (.slice none 0 0) (.slice none 0 0)
theorem kM (w : World) (s1 : Bool) (t1 b1 : Value) : ∃ W, w.alloc (.cells #[.bool s1, t1, b1] 25) = W ∧ Q w W ∧ Nb W w.heap.size s1 t1 b1 := ⟨_, rfl, (Q.refl _).alloc _, Nb.new w s1 t1 b1⟩
def w3 (w : World) (s1 : Bool) (t1 b1 : Value) (s2 : Bool) (t2 b2 : Value) : World :=
 ((w.alloc (.cells #[.bool s1, t1, b1] 25)).alloc (.cells #[.bool s2, t2, b2] 25)).alloc (.cells #[.bool false, .slice none 0 0, .slice none 0 0] 25)
def w2 (w : World) (s1 : Bool) (t1 b1 : Value) (s2 : Bool) (t2 b2 : Value) : World :=
 (w.alloc (.cells #[.bool s1, t1, b1] 25)).alloc (.cells #[.bool s2, t2, b2] 25)
theorem Nq.store {a w : World} {g : Nat} {s' s : Bool} {t b : Value} {B1 B2 : Option Addr} {m1 d1 m2 d2 : Nat} {q : Rat} (hr : Nb w g s' (.slice B1 m1 d1) (.slice B2 m2 d2)) (hv : Nq w (.agg #[.bool s, t, b]) q) (hq : Q a w) (hg : a.heap.size ≤ g) :
  (put3 w g s t b).cell? ⟨g, 0, none⟩ = some (.bool s) ∧ (put3 w g s t b).cell? ⟨g, 1, none⟩ = some t ∧ (put3 w g s t b).cell? ⟨g, 2, none⟩ = some b ∧ Nq (put3 w g s t b) (.agg #[.bool s, t, b]) q ∧ Q a (put3 w g s t b) := by
 obtain ⟨r0, r1, r2⟩ := (hr.put (s := s) (t := t) (b := b)).cells;exact ⟨r0, r1, r2, Nq.apart hv hr, nT hq hg⟩
theorem Nq.made {w : World} {v : Value} {s : Bool} {K D : Nat} {q : Rat} (h : Nf w v (decide (0 < K) && s) K (if K = 0 then 0 else bt D)) (hn : q.num = sg s K) (hd : 0 < K → q.den = D) : Nq w v q := by
 rcases Nat.eq_zero_or_pos K with h0 | h0
 ·subst h0;have h1 : q.num = 0 := by rw [hn]; cases s <;> rfl
  have h2 : q.den = 1 := yN (by rw [h1]; rfl);rw [if_pos rfl] at h;exact Nq.of (s := false) (N := 0) (D := 1) h (fun h => by simp at h) h1 h2
 ·rw [if_neg (by omega), decide_eq_true h0, Bool.true_and] at h;exact Nq.of h (fun _ => h0) hn (hd h0)
theorem Nq.int {w : World} {v : Value} {s : Bool} {K : Nat} {q : Rat} (h : Nf w v (decide (0 < K) && s) K 0) (hn : q.num = sg s K) (hd : q.den = 1) : Nq w v q := by
 refine Nq.made (D := 1) (K := K) (s := s) ?_ hn (fun _ => hd);have : (if K = 0 then 0 else bt 1) = 0 := by split <;> rfl
 rw [this]; exact h
theorem aFh (s t : Bool) (N M : Nat) : sg (s != t) (N * M) = sg s N * sg t M := by
 cases s <;> cases t <;> simp [sg] <;> grind
theorem aCp (s : Bool) (N k : Nat) (h : k ∣ N) : sg s (N / k) = sg s N / k := by
 obtain ⟨m, rfl⟩ := h;rcases Nat.eq_zero_or_pos k with h0 | h0
 ·subst h0; cases s <;> simp [sg]
 ·rw [Nat.mul_div_cancel_left _ h0];cases s
  ·simp only [sg];rw [if_neg (by decide), if_neg (by decide), Int.natCast_mul, Int.mul_ediv_cancel_left _ (by omega)]
  ·simp only [sg];rw [if_pos trivial, if_pos trivial, Int.natCast_mul, ← Int.mul_neg, Int.mul_ediv_cancel_left _ (by omega)]
theorem qL (x y : Rat) : (x * y).num = sg (decide (x.num < 0) != decide (y.num < 0)) ((x.num.natAbs / Nat.gcd x.num.natAbs y.den) * (y.num.natAbs / Nat.gcd y.num.natAbs x.den)) ∧ (x * y).den = (x.den / Nat.gcd y.num.natAbs x.den) * (y.den / Nat.gcd x.num.natAbs y.den) := by
 obtain ⟨h1, h2⟩ := aAA (x := x) (y := y) rfl rfl;rw [h1, h2, aFh, aCp _ _ _ (Nat.gcd_dvd_left _ _), aCp _ _ _ (Nat.gcd_dvd_left _ _), zK, zK];exact ⟨rfl, rfl⟩
theorem wS {x y : Rat} (hx : x.den = 1) (hy : y.den = 1) : (x * y).num = sg (decide (x.num < 0) != decide (y.num < 0)) (x.num.natAbs * y.num.natAbs) ∧ (x * y).den = 1 := by
 obtain ⟨h1, h2⟩ := qL x y;rw [hx, hy] at h1 h2;rw [h1, h2, Nat.gcd_one_right, Nat.gcd_one_right, Nat.div_one, Nat.div_one];exact ⟨rfl, rfl⟩
theorem bP (w : World) : Nq w (.agg #[.bool false, .slice none 0 0, .slice none 0 0]) 0 := ⟨_, _, rfl, Nm.zero _ _, Nm.zero _ _⟩
theorem fC {q : Rat} (h : q ≠ 0) : 0 < q.num.natAbs := by
 have : q.num ≠ 0 := fun h1 => h (Rat.num_eq_zero.1 h1);omega
theorem rP (q : Rat) : dg W64 (bt q.den) ≤ sz q := by
 unfold bt;split
 ·rw [aQ]; exact Nat.zero_le _
 ·exact lW q
theorem rQ (x y : Value) (p q : Rat) (w : World) (hT : Tb w) (hx : Nq w x p) (hy : Nq w y q) (hB : 16 * (sz p + sz q) + 100 ≤ LIM) : Calls Tryz.prog 22 #[x, y] w fun e w' => ∃ r, e = .returned r ∧ Nq w' r (p * q) ∧ Q w w' := by
 obtain ⟨s1, A1, n1, c1, A2, n2, c2, rfl, E1, Z1, O1, hxt, hxb⟩ := hx.form;obtain ⟨s2, A3, n3, c3, A4, n4, c4, rfl, E2, Z2, O2, hyt, hyb⟩ := hy.form;obtain ⟨w0, hW, hG0, hX0, hY0, hR0⟩ := vP w s1 (.slice A1 n1 c1) (.slice A2 n2 c2) s2 (.slice A3 n3 c3) (.slice A4 n4 c4);have HB := Lib.hid hB; clear hB;obtain ⟨s3, hs3⟩ : ∃ s3, (!(s1 == s2)) = s3 := ⟨_, rfl⟩
 obtain ⟨x0, x1, x2⟩ := hX0.cells;obtain ⟨y0, y1, y2⟩ := hY0.cells;go_enter Tryz.func22, Tryz.ntmps22
 go_wp2_with fail
 have HS := Lib.hid hs3;clear hW hs3;refine (iM _ p _ (hx.q hG0)).mono ?_;rintro e w1 ⟨rfl, hq1⟩;have hG1 := hG0.trans hq1;have hX1 := hX0.q hq1;have hY1 := hY0.q hq1;have hR1 := hR0.q hq1;clear x0 x1 x2 y0 y1 y2;obtain ⟨x0, x1, x2⟩ := hX1.cells;obtain ⟨y0, y1, y2⟩ := hY1.cells;by_cases hp1 : p.den = 1
 ·rw [decide_eq_true hp1];go_wp2_with fail
  refine (iM _ q _ (hy.q hG1)).mono ?_;rintro e w2 ⟨rfl, hq2⟩;have hG2 := hG1.trans hq2;have hX2 := hX1.q hq2;have hY2 := hY1.q hq2;have hR2 := hR1.q hq2;clear x0 x1 x2 y0 y1 y2;obtain ⟨x0, x1, x2⟩ := hX2.cells;obtain ⟨y0, y1, y2⟩ := hY2.cells;by_cases hp2 : q.den = 1
  ·rw [decide_eq_true hp2];clear x0 x1 x2 y0 y1 y2;obtain ⟨x0, x1, x2⟩ := hX2.cells;obtain ⟨y0, y1, y2⟩ := hY2.cells;have fz := hR2.frozen;obtain ⟨r0, r1, r2⟩ := hR2.cells;go_wp2_with fail
   refine (dP _ _ _ _ _ (hxt.q hG2) (hyt.q hG2) (show dg W64 p.num.natAbs + dg W64 q.num.natAbs + 8 ≤ LIM by have := gI p; have := gI q; have := HB.out; rw [aA] at *; omega)).mono ?_;rintro e w3 ⟨tv, rfl, htv, hq3, -⟩;have hG3 := hG2.trans hq3;have hX3 := hX2.q hq3;have hY3 := hY2.q hq3;have hR3 := hR2.q hq3;clear x0 x1 x2 y0 y1 y2 fz r0 r1 r2;have fz := hR3.frozen;obtain ⟨r0, r1, r2⟩ := hR3.cells;obtain ⟨A5, n5, c5, rfl⟩ := htv.form;go_wp2_with fail
   refine (fZ s3 _ (p.num.natAbs * q.num.natAbs) _ htv).mono ?_;rintro e w4 ⟨v4, rfl, hv4, hq4⟩;have hG4 := hG3.trans hq4;have hX4 := hX3.q hq4;have hY4 := hY3.q hq4;have hR4 := hR3.q hq4;clear fz r0 r1 r2;have fz := hR4.frozen;obtain ⟨r0, r1, r2⟩ := hR4.cells;obtain ⟨B1, d1, B2, d2, rfl, -, -⟩ := hv4.form;have hv := Nq.int (q := p * q) hv4 (by rw [(wS hp1 hp2).1, ← E1.out, ← E2.out, ← HS.out]; rfl) (wS hp1 hp2).2;generalize (decide (0 < p.num.natAbs * q.num.natAbs) && s3) = s4 at *
   generalize dg W64 (p.num.natAbs * q.num.natAbs) = m1 at *
   generalize dg W64 0 = m2 at *
   go_wp2_with fail
   obtain ⟨z0, z1, z2, hvF, hqF⟩ := Nq.store hR4 hv hG4 (by exact Nat.le_add_right_of_le (Nat.le_add_right _ _));unfold put3 at z0 z1 z2 hvF hqF;refine bodyPost_ret (v := .agg #[.bool s4, .slice B1 m1 d1, .slice B2 m2 d2]) (by simp [results, Tryz.results22, go_sem, z0, z1, z2]) rfl ?_;exact ⟨_, rfl, hvF, hqF⟩
  ·rw [decide_eq_false hp2];by_cases hp0 : p = 0
   ·have k0 : ((n1 : Int) == 0) = true := (by rw [Z1.out.2 hp0]; rfl);clear x0 x1 x2 y0 y1 y2;obtain ⟨x0, x1, x2⟩ := hX2.cells;have fz := hR2.frozen;obtain ⟨r0, r1, r2⟩ := hR2.cells;go_wp2_with fail
    have hv : Nq w2 (.agg #[.bool false, .slice none 0 0, .slice none 0 0]) (p * q) := (by rw [hp0, Rat.zero_mul]; exact bP _);obtain ⟨z0, z1, z2, hvF, hqF⟩ := Nq.store hR2 hv hG2 (by exact Nat.le_add_right_of_le (Nat.le_add_right _ _));unfold put3 at z0 z1 z2 hvF hqF;refine bodyPost_ret (v := .agg #[.bool false, .slice none 0 0, .slice none 0 0]) (by simp [results, Tryz.results22, go_sem, z0, z1, z2]) rfl ?_;exact ⟨_, rfl, hvF, hqF⟩
   ·have k0 : ((n1 : Int) == 0) = false := beq_eq_false_iff_ne.2 (fun h => hp0 (Z1.out.1 (by omega)));by_cases hq0 : q = 0
    ·have k1 : ((n3 : Int) == 0) = true := (by rw [Z2.out.2 hq0]; rfl);clear x0 x1 x2 y0 y1 y2;obtain ⟨x0, x1, x2⟩ := hX2.cells;obtain ⟨y0, y1, y2⟩ := hY2.cells;have fz := hR2.frozen;obtain ⟨r0, r1, r2⟩ := hR2.cells;go_wp2_with fail
     have hv : Nq w2 (.agg #[.bool false, .slice none 0 0, .slice none 0 0]) (p * q) := (by rw [hq0, Rat.mul_zero]; exact bP _);obtain ⟨z0, z1, z2, hvF, hqF⟩ := Nq.store hR2 hv hG2 (by exact Nat.le_add_right_of_le (Nat.le_add_right _ _));unfold put3 at z0 z1 z2 hvF hqF;refine bodyPost_ret (v := .agg #[.bool false, .slice none 0 0, .slice none 0 0]) (by simp [results, Tryz.results22, go_sem, z0, z1, z2]) rfl ?_;exact ⟨_, rfl, hvF, hqF⟩
    ·have k1 : ((n3 : Int) == 0) = false := beq_eq_false_iff_ne.2 (fun h => hq0 (Z2.out.1 (by omega)));clear x0 x1 x2 y0 y1 y2;obtain ⟨x0, x1, x2⟩ := hX2.cells;obtain ⟨y0, y1, y2⟩ := hY2.cells;go_wp2_with fail
     clear k0 k1;have hP0 : 0 < p.num.natAbs := fC hp0;have hQ0 : 0 < q.num.natAbs := fC hq0;refine (iC _ _ p.num.natAbs (bt q.den) _ (hT.q hG2) (hxt.q hG2) (hyb.q hG2) hP0 (show 8 * (dg W64 p.num.natAbs + dg W64 (bt q.den)) + 80 ≤ LIM by have := gI p; have := rP q; have := HB.out; rw [aA] at *; omega)).mono ?_;rintro e w3 ⟨ta, tb, rfl, hta, htb, hq3⟩;have hG3 := hG2.trans hq3;have hX3 := hX2.q hq3;have hY3 := hY2.q hq3;have hR3 := hR2.q hq3;clear x0 x1 x2 y0 y1 y2;obtain ⟨x0, x1, x2⟩ := hX3.cells;obtain ⟨y0, y1, y2⟩ := hY3.cells;rw [rO q.den_pos] at hta htb;obtain ⟨A5, n5, c5, rfl⟩ := hta.form;obtain ⟨A6, n6, c6, rfl⟩ := htb.form;go_wp2_with fail
     refine (iC _ _ q.num.natAbs (bt p.den) _ (hT.q hG3) (hyt.q hG3) (hxb.q hG3) hQ0 (show 8 * (dg W64 q.num.natAbs + dg W64 (bt p.den)) + 80 ≤ LIM by have := gI q; have := rP p; have := HB.out; rw [aA] at *; omega)).mono ?_;rintro e w4 ⟨tc, td, rfl, htc, htd, hq4⟩;have hG4 := hG3.trans hq4;have hX4 := hX3.q hq4;have hY4 := hY3.q hq4;have hR4 := hR3.q hq4;clear x0 x1 x2 y0 y1 y2;have fz := hR4.frozen;obtain ⟨r0, r1, r2⟩ := hR4.cells;rw [rO p.den_pos] at htc htd;obtain ⟨A7, n7, c7, rfl⟩ := htc.form;obtain ⟨A8, n8, c8, rfl⟩ := htd.form;obtain ⟨hm1, hm2⟩ := qL p q;rw [← E1.out, ← E2.out, show (s1 != s2) = s3 from HS.out] at hm1;have hl1 : dg W64 (p.num.natAbs / Nat.gcd p.num.natAbs q.den) ≤ sz p := Nat.le_trans (fV aB (Nat.div_le_self _ _)) (gI p);have hl2 : dg W64 (q.num.natAbs / Nat.gcd q.num.natAbs p.den) ≤ sz q := Nat.le_trans (fV aB (Nat.div_le_self _ _)) (gI q);have hl3 : dg W64 (q.den / Nat.gcd p.num.natAbs q.den) ≤ sz q := Nat.le_trans (fV aB (Nat.div_le_self _ _)) (lW q);have hl4 : dg W64 (p.den / Nat.gcd q.num.natAbs p.den) ≤ sz p := Nat.le_trans (fV aB (Nat.div_le_self _ _)) (lW p);generalize p.num.natAbs / Nat.gcd p.num.natAbs q.den = K1 at *
     generalize q.num.natAbs / Nat.gcd q.num.natAbs p.den = K2 at *
     generalize q.den / Nat.gcd p.num.natAbs q.den = K3 at *
     generalize p.den / Nat.gcd q.num.natAbs p.den = K4 at *
     have HM1 := Lib.hid hm1; have HM2 := Lib.hid hm2; clear hm1 hm2;go_wp2_with fail
     refine (dP K1 K2 _ _ _ (hta.q hq4) htc (show dg W64 K1 + dg W64 K2 + 8 ≤ LIM by have := HB.out; rw [aA] at *; omega)).mono ?_;rintro e w5 ⟨te, rfl, hte, hq5, -⟩;have hG5 := hG4.trans hq5;have hX5 := hX4.q hq5;have hY5 := hY4.q hq5;have hR5 := hR4.q hq5;clear fz r0 r1 r2;have fz := hR5.frozen;obtain ⟨r0, r1, r2⟩ := hR5.cells;obtain ⟨A9, n9, c9, rfl⟩ := hte.form;go_wp2_with fail
     refine (dP K4 K3 _ _ _ (htd.q hq5) ((htb.q hq4).q hq5) (show dg W64 K4 + dg W64 K3 + 8 ≤ LIM by have := HB.out; rw [aA] at *; omega)).mono ?_;rintro e w6 ⟨tf, rfl, htf, hq6, -⟩;have hG6 := hG5.trans hq6;have hX6 := hX5.q hq6;have hY6 := hY5.q hq6;have hR6 := hR5.q hq6;clear fz r0 r1 r2;have fz := hR6.frozen;obtain ⟨r0, r1, r2⟩ := hR6.cells;obtain ⟨A10, n10, c10, rfl⟩ := htf.form;go_wp2_with fail
     refine (dW s3 _ _ (K1 * K2) (K4 * K3) _ (hte.q hq6) htf).mono ?_;rintro e w7 ⟨v5, rfl, hv5, hq7⟩;have hG7 := hG6.trans hq7;have hX7 := hX6.q hq7;have hY7 := hY6.q hq7;have hR7 := hR6.q hq7;clear fz r0 r1 r2;have fz := hR7.frozen;obtain ⟨r0, r1, r2⟩ := hR7.cells;obtain ⟨B1, d1, B2, d2, rfl, -, -⟩ := hv5.form;have hv := Nq.made (q := p * q) hv5 HM1.out (fun _ => HM2.out);generalize (decide (0 < K1 * K2) && s3) = s4 at *
     generalize dg W64 (if K1 * K2 = 0 then 0 else bt (K4 * K3)) = m2 at *
     generalize dg W64 (K1 * K2) = m1 at *
     go_wp2_with fail
     obtain ⟨z0, z1, z2, hvF, hqF⟩ := Nq.store hR7 hv hG7 (by exact Nat.le_add_right_of_le (Nat.le_add_right _ _));unfold put3 at z0 z1 z2 hvF hqF;refine bodyPost_ret (v := .agg #[.bool s4, .slice B1 m1 d1, .slice B2 m2 d2]) (by simp [results, Tryz.results22, go_sem, z0, z1, z2]) rfl ?_;exact ⟨_, rfl, hvF, hqF⟩
 ·rw [decide_eq_false hp1];by_cases hp0 : p = 0
  ·have k0 : ((n1 : Int) == 0) = true := (by rw [Z1.out.2 hp0]; rfl);clear x0 x1 x2 y0 y1 y2;obtain ⟨x0, x1, x2⟩ := hX1.cells;have fz := hR1.frozen;obtain ⟨r0, r1, r2⟩ := hR1.cells;go_wp2_with fail
   have hv : Nq w1 (.agg #[.bool false, .slice none 0 0, .slice none 0 0]) (p * q) := (by rw [hp0, Rat.zero_mul]; exact bP _);obtain ⟨z0, z1, z2, hvF, hqF⟩ := Nq.store hR1 hv hG1 (by exact Nat.le_add_right_of_le (Nat.le_add_right _ _));unfold put3 at z0 z1 z2 hvF hqF;refine bodyPost_ret (v := .agg #[.bool false, .slice none 0 0, .slice none 0 0]) (by simp [results, Tryz.results22, go_sem, z0, z1, z2]) rfl ?_;exact ⟨_, rfl, hvF, hqF⟩
  ·have k0 : ((n1 : Int) == 0) = false := beq_eq_false_iff_ne.2 (fun h => hp0 (Z1.out.1 (by omega)));by_cases hq0 : q = 0
   ·have k1 : ((n3 : Int) == 0) = true := (by rw [Z2.out.2 hq0]; rfl);clear x0 x1 x2 y0 y1 y2;obtain ⟨x0, x1, x2⟩ := hX1.cells;obtain ⟨y0, y1, y2⟩ := hY1.cells;have fz := hR1.frozen;obtain ⟨r0, r1, r2⟩ := hR1.cells;go_wp2_with fail
    have hv : Nq w1 (.agg #[.bool false, .slice none 0 0, .slice none 0 0]) (p * q) := (by rw [hq0, Rat.mul_zero]; exact bP _);obtain ⟨z0, z1, z2, hvF, hqF⟩ := Nq.store hR1 hv hG1 (by exact Nat.le_add_right_of_le (Nat.le_add_right _ _));unfold put3 at z0 z1 z2 hvF hqF;refine bodyPost_ret (v := .agg #[.bool false, .slice none 0 0, .slice none 0 0]) (by simp [results, Tryz.results22, go_sem, z0, z1, z2]) rfl ?_;exact ⟨_, rfl, hvF, hqF⟩
   ·have k1 : ((n3 : Int) == 0) = false := beq_eq_false_iff_ne.2 (fun h => hq0 (Z2.out.1 (by omega)));clear x0 x1 x2 y0 y1 y2;obtain ⟨x0, x1, x2⟩ := hX1.cells;obtain ⟨y0, y1, y2⟩ := hY1.cells;go_wp2_with fail
    clear k0 k1;have hP0 : 0 < p.num.natAbs := fC hp0;have hQ0 : 0 < q.num.natAbs := fC hq0;refine (iC _ _ p.num.natAbs (bt q.den) _ (hT.q hG1) (hxt.q hG1) (hyb.q hG1) hP0 (show 8 * (dg W64 p.num.natAbs + dg W64 (bt q.den)) + 80 ≤ LIM by have := gI p; have := rP q; have := HB.out; rw [aA] at *; omega)).mono ?_;rintro e w2 ⟨ta, tb, rfl, hta, htb, hq2⟩;have hG2 := hG1.trans hq2;have hX2 := hX1.q hq2;have hY2 := hY1.q hq2;have hR2 := hR1.q hq2;clear x0 x1 x2 y0 y1 y2;obtain ⟨x0, x1, x2⟩ := hX2.cells;obtain ⟨y0, y1, y2⟩ := hY2.cells;rw [rO q.den_pos] at hta htb;obtain ⟨A5, n5, c5, rfl⟩ := hta.form;obtain ⟨A6, n6, c6, rfl⟩ := htb.form;go_wp2_with fail
    refine (iC _ _ q.num.natAbs (bt p.den) _ (hT.q hG2) (hyt.q hG2) (hxb.q hG2) hQ0 (show 8 * (dg W64 q.num.natAbs + dg W64 (bt p.den)) + 80 ≤ LIM by have := gI q; have := rP p; have := HB.out; rw [aA] at *; omega)).mono ?_;rintro e w3 ⟨tc, td, rfl, htc, htd, hq3⟩;have hG3 := hG2.trans hq3;have hX3 := hX2.q hq3;have hY3 := hY2.q hq3;have hR3 := hR2.q hq3;clear x0 x1 x2 y0 y1 y2;have fz := hR3.frozen;obtain ⟨r0, r1, r2⟩ := hR3.cells;rw [rO p.den_pos] at htc htd;obtain ⟨A7, n7, c7, rfl⟩ := htc.form;obtain ⟨A8, n8, c8, rfl⟩ := htd.form;obtain ⟨hm1, hm2⟩ := qL p q;rw [← E1.out, ← E2.out, show (s1 != s2) = s3 from HS.out] at hm1;have hl1 : dg W64 (p.num.natAbs / Nat.gcd p.num.natAbs q.den) ≤ sz p := Nat.le_trans (fV aB (Nat.div_le_self _ _)) (gI p);have hl2 : dg W64 (q.num.natAbs / Nat.gcd q.num.natAbs p.den) ≤ sz q := Nat.le_trans (fV aB (Nat.div_le_self _ _)) (gI q);have hl3 : dg W64 (q.den / Nat.gcd p.num.natAbs q.den) ≤ sz q := Nat.le_trans (fV aB (Nat.div_le_self _ _)) (lW q);have hl4 : dg W64 (p.den / Nat.gcd q.num.natAbs p.den) ≤ sz p := Nat.le_trans (fV aB (Nat.div_le_self _ _)) (lW p);generalize p.num.natAbs / Nat.gcd p.num.natAbs q.den = K1 at *
    generalize q.num.natAbs / Nat.gcd q.num.natAbs p.den = K2 at *
    generalize q.den / Nat.gcd p.num.natAbs q.den = K3 at *
    generalize p.den / Nat.gcd q.num.natAbs p.den = K4 at *
    have HM1 := Lib.hid hm1; have HM2 := Lib.hid hm2; clear hm1 hm2;go_wp2_with fail
    refine (dP K1 K2 _ _ _ (hta.q hq3) htc (show dg W64 K1 + dg W64 K2 + 8 ≤ LIM by have := HB.out; rw [aA] at *; omega)).mono ?_;rintro e w4 ⟨te, rfl, hte, hq4, -⟩;have hG4 := hG3.trans hq4;have hX4 := hX3.q hq4;have hY4 := hY3.q hq4;have hR4 := hR3.q hq4;clear fz r0 r1 r2;have fz := hR4.frozen;obtain ⟨r0, r1, r2⟩ := hR4.cells;obtain ⟨A9, n9, c9, rfl⟩ := hte.form;go_wp2_with fail
    refine (dP K4 K3 _ _ _ (htd.q hq4) ((htb.q hq3).q hq4) (show dg W64 K4 + dg W64 K3 + 8 ≤ LIM by have := HB.out; rw [aA] at *; omega)).mono ?_;rintro e w5 ⟨tf, rfl, htf, hq5, -⟩;have hG5 := hG4.trans hq5;have hX5 := hX4.q hq5;have hY5 := hY4.q hq5;have hR5 := hR4.q hq5;clear fz r0 r1 r2;have fz := hR5.frozen;obtain ⟨r0, r1, r2⟩ := hR5.cells;obtain ⟨A10, n10, c10, rfl⟩ := htf.form;go_wp2_with fail
    refine (dW s3 _ _ (K1 * K2) (K4 * K3) _ (hte.q hq5) htf).mono ?_;rintro e w6 ⟨v5, rfl, hv5, hq6⟩;have hG6 := hG5.trans hq6;have hX6 := hX5.q hq6;have hY6 := hY5.q hq6;have hR6 := hR5.q hq6;clear fz r0 r1 r2;have fz := hR6.frozen;obtain ⟨r0, r1, r2⟩ := hR6.cells;obtain ⟨B1, d1, B2, d2, rfl, -, -⟩ := hv5.form;have hv := Nq.made (q := p * q) hv5 HM1.out (fun _ => HM2.out);generalize (decide (0 < K1 * K2) && s3) = s4 at *
    generalize dg W64 (if K1 * K2 = 0 then 0 else bt (K4 * K3)) = m2 at *
    generalize dg W64 (K1 * K2) = m1 at *
    go_wp2_with fail
    obtain ⟨z0, z1, z2, hvF, hqF⟩ := Nq.store hR6 hv hG6 (by exact Nat.le_add_right_of_le (Nat.le_add_right _ _));unfold put3 at z0 z1 z2 hvF hqF;refine bodyPost_ret (v := .agg #[.bool s4, .slice B1 m1 d1, .slice B2 m2 d2]) (by simp [results, Tryz.results22, go_sem, z0, z1, z2]) rfl ?_;exact ⟨_, rfl, hvF, hqF⟩
theorem aDE {n : Nat} : n ≠ n + 1 + 1 := by omega
theorem aDF {n : Nat} : n + 1 ≠ n + 1 + 1 := by omega
theorem oV {n : Nat} : n ≠ n + 1 := by omega
theorem dX {w : World} {g b o : Nat} {s t u : Value} (h : b ≠ g) : (((w.setCell ⟨g, 0, none⟩ s).setCell ⟨g, 1, none⟩ t).setCell ⟨g, 2, none⟩ u).cell? ⟨b, o, none⟩ = w.cell? ⟨b, o, none⟩ := by
 rw [World.cell?_setCell_other _ _ _ _ (by intro e; cases e; exact h rfl), World.cell?_setCell_other _ _ _ _ (by intro e; cases e; exact h rfl), World.cell?_setCell_other _ _ _ _ (by intro e; cases e; exact h rfl)]
theorem aCq (p : Rat) : sz (gD p) = sz p := by
 unfold gD; split
 ·exact nP p
 ·rfl
theorem qO (q : Rat) : (gD q).num = q.num.natAbs ∧ (gD q).den = q.den := by
 unfold gD;by_cases h : q < 0
 ·have h1 := (bG q).2 h;rw [if_pos h, Rat.neg_num, Rat.neg_den];exact ⟨by omega, rfl⟩
 ·have h1 : ¬ q.num < 0 := fun h2 => h ((bG q).1 h2);rw [if_neg h];exact ⟨by omega, rfl⟩
theorem aCr (v : Value) (q : Rat) (w : World) (hv : Nq w v q) : Calls Tryz.prog 100 #[v] w fun e w' => ∃ r, e = .returned r ∧ Nq w' r (gD q) ∧ Q w w' := by
 refine (aFg v _ _ _ w hv).mono ?_;rintro e w' ⟨r, h1, h2, h3⟩;refine ⟨r, h1, ?_, h3⟩;unfold Nq;rw [(qO q).1, (qO q).2, Int.natAbs_natCast, decide_eq_false (by omega)];exact h2
def mI (p q : Rat) : Int × Rat := if q = 0 then (8, 0) else (0, p * q⁻¹)
theorem mJ (x : Value) (p : Rat) (w : World) (hx : Nq w x p) : Calls Tryz.prog 93 #[x] w fun e w' => e = .returned (.int .i64 (sn p)) ∧ Q w w' := by
 obtain ⟨s1, A1, n1, c1, A2, n2, c2, rfl, E1, Z1, O1, hxt, hxb⟩ := hx.form;obtain ⟨w0, hW, hG0, hX0⟩ := kM w s1 (.slice A1 n1 c1) (.slice A2 n2 c2);obtain ⟨x0, x1, x2⟩ := hX0.cells;rcases dF p with ⟨hp, e⟩ | ⟨hp, e⟩ | ⟨hp, e⟩
 ·rw [e];have k0 : s1 = true := (by rw [E1.out]; exact decide_eq_true ((bG p).2 hp));subst k0;clear e hp;go_enter Tryz.func93, Tryz.ntmps93
  go_wp2_with fail
  go_ret
  exact ⟨rfl, hG0⟩
 ·rw [e];have k0 : s1 = false := (by rw [E1.out]; exact decide_eq_false (fun h => by have := (bG p).1 h; grind));subst k0;have k1 : ((n1 : Int) == 0) = true := (by rw [Z1.out.2 hp]; rfl);clear e hp;go_enter Tryz.func93, Tryz.ntmps93
  go_wp2_with fail
  go_ret
  exact ⟨rfl, hG0⟩
 ·rw [e];have k0 : s1 = false := (by rw [E1.out]; exact decide_eq_false (fun h => by have := (bG p).1 h; grind));subst k0;have k1 : ((n1 : Int) == 0) = false := beq_eq_false_iff_ne.2 (fun h => by have := Z1.out.1 (by omega); grind);clear e hp;go_enter Tryz.func93, Tryz.ntmps93
  go_wp2_with fail
  go_ret
  exact ⟨rfl, hG0⟩
theorem aDS (x y : Value) (p q : Rat) (w : World) (hT : Tb w) (hx : Nq w x p) (hy : Nq w y q) (hB : 16 * (sz p + sz q) + 200 ≤ LIM) : Calls Tryz.prog 67 #[x, y] w fun e w' => ∃ r, e = .returned (.tuple #[r, .int .i64 (mI p q).1]) ∧ Nq w' r (mI p q).2 ∧ Q w w' := by
 obtain ⟨s1, A1, n1, c1, A2, n2, c2, rfl, E1, Z1, O1, hxt, hxb⟩ := hx.form;obtain ⟨s2, A3, n3, c3, A4, n4, c4, rfl, E2, Z2, O2, hyt, hyb⟩ := hy.form;obtain ⟨w0, hW, hG0, hX0, hY0, hR0⟩ := vP w s1 (.slice A1 n1 c1) (.slice A2 n2 c2) s2 (.slice A3 n3 c3) (.slice A4 n4 c4);have HB := Lib.hid hB; clear hB;by_cases hq0 : q = 0
 ·have k0 : ((n3 : Int) == 0) = true := (by rw [Z2.out.2 hq0]; rfl);have hd : mI p q = ((8 : Int), (0 : Rat)) := if_pos hq0;rw [hd];have hv := bP w0;clear hd hq0;obtain ⟨y0, y1, y2⟩ := hY0.cells;have fz := hR0.frozen;obtain ⟨r0, r1, r2⟩ := hR0.cells;go_enter Tryz.func67, Tryz.ntmps67
  go_wp2_with fail
  clear hW;obtain ⟨z0, z1, z2, hvF, hqF⟩ := Nq.store hR0 hv hG0 (by exact Nat.le_add_right_of_le (Nat.le_add_right _ _));unfold put3 at z0 z1 z2 hvF hqF;refine bodyPost_ret (v := .tuple #[.agg #[.bool false, .slice none 0 0, .slice none 0 0], .int .i64 8]) (by simp [results, Tryz.results67, go_sem, z0, z1, z2]) rfl ?_;exact ⟨_, rfl, hvF, hqF⟩
 ·have k0 : ((n3 : Int) == 0) = false := beq_eq_false_iff_ne.2 (fun h => hq0 (Z2.out.1 (by omega)));have hd : mI p q = ((0 : Int), p * q⁻¹) := if_neg hq0;rw [hd];have HQ := Lib.hid (fun h => hq0 (Rat.num_eq_zero.1 h) : q.num ≠ 0);clear hd hq0;obtain ⟨x0, x1, x2⟩ := hX0.cells;obtain ⟨y0, y1, y2⟩ := hY0.cells;go_enter Tryz.func67, Tryz.ntmps67
  go_wp2_with fail
  clear hW k0;clear x0 x1 x2 y0 y1 y2;obtain ⟨x0, x1, x2⟩ := hX0.cells;obtain ⟨y0, y1, y2⟩ := hY0.cells
  go_region_held3 (fun W => W.cell? ⟨w.heap.size, 0, none⟩ = some (.bool s1) ∧ W.cell? ⟨w.heap.size, 1, none⟩ = some (.slice A1 n1 c1) ∧ W.cell? ⟨w.heap.size, 2, none⟩ = some (.slice A2 n2 c2) ∧ W.cell? ⟨w.heap.size + 1, 0, none⟩ = some (.bool s2) ∧ W.cell? ⟨w.heap.size + 1, 1, none⟩ = some (.slice A3 n3 c3) ∧ W.cell? ⟨w.heap.size + 1, 2, none⟩ = some (.slice A4 n4 c4)) (first | exact ⟨x0, x1, x2, y0, y1, y2⟩ | exact ⟨by assumption, by assumption, by assumption, by assumption, by assumption, by assumption⟩ | exact ⟨(dX aDE).trans (by assumption), (dX aDE).trans (by assumption), (dX aDE).trans (by assumption), (dX aDF).trans (by assumption), (dX aDF).trans (by assumption), (dX aDF).trans (by assumption)⟩ | go_keep) (first
   | (go_at_call 22; refine (rQ _ _ p q⁻¹ _ (hT.q hG1) (hx.q hG1) ho1 (show 16 * (sz p + sz q⁻¹) + 100 ≤ LIM by have := aEZ q; have := HB.out; rw [aA] at *; omega)).mono ?_; rintro e w2 ⟨v1, rfl, hv, hq2⟩; have hG2 := hG1.trans hq2; have hX2 := hX1.q hq2; have hY2 := hY1.q hq2; have hR2 := hR1.q hq2; obtain ⟨x0, x1, x2⟩ := hX2.cells; obtain ⟨y0, y1, y2⟩ := hY2.cells; have fz := hR2.frozen; obtain ⟨r0, r1, r2⟩ := hR2.cells; obtain ⟨s6, B1, m1, d1, B2, m2, d2, rfl, -⟩ := hv.form)
   | (go_at_call 118; refine (aCo _ q _ (hy.q hG0.drew) HQ.out).mono ?_; rintro e w1 ⟨o1, rfl, ho1, hq1d⟩; have hq1 : Q w0 w1 := (Q.refl w0).drew.trans hq1d; have hG1 := hG0.trans hq1; have hX1 := hX0.q hq1; have hY1 := hY0.q hq1; have hR1 := hR0.q hq1; obtain ⟨x0, x1, x2⟩ := hX1.cells; obtain ⟨y0, y1, y2⟩ := hY1.cells; obtain ⟨s5, A5, n5, c5, A6, n6, c6, rfl, -⟩ := ho1.form))
  all_goals
   go_wp2_with fail
   obtain ⟨z0, z1, z2, hvF, hqF⟩ := Nq.store hR2 hv hG2 (by exact Nat.le_add_right_of_le (Nat.le_add_right _ _));unfold put3 at z0 z1 z2 hvF hqF;refine bodyPost_ret (v := .tuple #[.agg #[.bool s6, .slice B1 m1 d1, .slice B2 m2 d2], .int .i64 0]) (by simp [results, Tryz.results67, go_sem, z0, z1, z2]) rfl ?_;exact ⟨_, rfl, hvF, hqF⟩
end Go.Proofs.YtgpacgadpnpjjaaGreatDoor
