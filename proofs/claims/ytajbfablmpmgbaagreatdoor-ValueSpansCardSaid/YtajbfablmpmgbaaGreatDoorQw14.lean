/- ValueSpans: spans of numbers. No condition. -/
import Derived.StillTailTactics
import Derived.Test.YtajbfablmpmgbaaGreatDoorQw13
set_option maxHeartbeats 4000000
set_option maxRecDepth 100000
namespace Go.Proofs.YtajbfablmpmgbaaGreatDoor
open Go.RowKit
open Ma Me
theorem aI6 (x : Value) (N : Nat) (w : World) (hx : Nr w x N) : Calls Tryz.prog 97 #[x] w fun e w' => e = .returned (.bool (decide (N = 1))) ∧ w = w' := by
 obtain ⟨A, c, xs, rfl, hc, rx, wx, rfl⟩ := hx;by_cases h1 : xs.length = 1
 ·obtain ⟨d, rfl⟩ : ∃ d, xs = [d] := List.length_eq_one_iff.1 h1;obtain ⟨ad, rfl, hb, hcell⟩ := rx.head (by simp);simp only [List.getElem_cons_zero] at hcell;have e : decide (vl B30 [d] = 1) = ((d : Int) == 1) := by
   have e0 : vl B30 [d] = d := (by simp [vl]);rw [e0, Bool.eq_iff_iff, decide_eq_true_iff, beq_iff_eq]; omega
  rw [e];have HE := yW e; clear e h1;go_enter Tryz.func97, Tryz.ntmps97
  go_wp2
  go_ret
  exact ⟨rfl, rfl⟩
 ·have e : decide (vl B30 xs = 1) = false := by
   simp only [decide_eq_false_iff_not];intro e;apply h1;rw [wx.len aJ, e, dF aJ]
  rw [e];have h2 : ((xs.length : Int) == 1) = false := (by simp; omega);go_enter Tryz.func97, Tryz.ntmps97
  go_wp2
  go_ret
  exact ⟨rfl, rfl⟩
theorem sF (x : Int) (N : Nat) (w : World) (hx : x = (N : Int)) (h : N ≤ 9223372036854775807) : Calls Tryz.prog 114 #[.int .i64 x] w (nD N w) := by
 subst hx;go_enter Tryz.func114, Tryz.ntmps114
 go_wp2_with fail
 have hb : Blk .i64 (w.alloc (Obj.cells #[Value.int IntKind.i64 ((N : Int) % 1073741824), Value.int IntKind.i64 ((N : Int) / 1073741824 % 1073741824), Value.int IntKind.i64 ((N : Int) / 1073741824 / 1073741824)] 2)) w.heap.size 2 [N % B30, N / B30 % B30, N / B30 / B30] :=
  (heap_alloc_new w _).trans (by rw [aO]; simp [nums])
 refine (lZ _ _ (w.heap.size + 1) _ _ _ (by rfl) (Nat.le_refl _) (by omega) (hb.rd (Nat.lt_succ_self _))).mono ?_;rintro e w2 ⟨k, hk2, rfl, hnz, hv, rfl⟩;go_wp2
 go_ret
 refine ⟨_, rfl, Nn.of_blk hb hk2 hk2 hnz ?_ ?_, (Q.refl _).alloc _, Nw.at_ (Nat.le_refl _)⟩
 ·intro d hd; rw [aO] at *; simp at hd; omega
 ·rw [hv]; simp only [dL, aBl]; rw [aO]; omega
theorem aDg (x : Value) (N : Nat) (w : World) (hx : Nr w x N) (h : dg B30 N ≤ 2) : Calls Tryz.prog 143 #[x] w fun e w' => e = .returned (.int .i64 (N : Int)) ∧ w = w' := by
 obtain ⟨A, c, xs, rfl, hc, rx, wx, rfl⟩ := hx;rw [← wx.len aJ] at h;go_enter Tryz.func143, Tryz.ntmps143
 go_wp2
 go_loop [3, 4] (fun nv iv => ∃ (k : Nat) (V : Nat), k ≤ xs.length ∧ iv = .int .i64 ((k : Int) - 1) ∧ nv = .int .i64 (V : Int) ∧ V = vl B30 (xs.drop k)) (fun _ iv => (intOf iv + 1).toNat)
 case atStart => exact ⟨xs.length, 0, by omega, rfl, rfl, by simp [vl]⟩
 case round =>
  obtain ⟨k, V, hk, rfl, rfl, X⟩ := hrel;have HV := yW X; clear X;by_cases hlt : 0 < k
  ·obtain ⟨j, rfl⟩ : ∃ j, k = j + 1 := ⟨k - 1, by omega⟩
   have jx : j < xs.length := (by omega);obtain ⟨ad, rfl, hb, hcx⟩ := rx.at_ jx;have ba : xs[j] < 1073741824 := wx.1 _ (List.getElem_mem _);have HX := yW (dQ B30 jx);rw [show ((j + 1 : Nat) : Int) - 1 = (j : Int) from by omega];have hV2 : V < 1073741824 := by
    rw [HV.out];refine Nat.lt_of_lt_of_le (aDx (b := B30) (j + 1) wx.1) ?_;have := Nat.pow_le_pow_right (n := B30) (by decide) (show xs.length - (j + 1) ≤ 1 by omega);rw [Nat.pow_one] at this; exact this
   generalize xs[j] = x at *
   clear jx;go_wp2
   exact ⟨⟨j, V * B30 + x, by omega, rfl, congrArg (Value.int _) (by rw [aO]; omega), by rw [HX.out, ← HV.out]; grind⟩, by simp [intOf]⟩
  ·obtain rfl : k = 0 := (by omega);rw [show ((0 : Nat) : Int) - 1 = -1 from by omega];go_wp2
   go_ret
   exact ⟨by rw [HV.out]; rfl, rfl⟩
theorem aCe (x : Value) (N : Nat) (w : World) (hx : Nr w x N) (h : dg B30 N ≤ LIM) : Calls Tryz.prog 163 #[x] w fun e w' => e = .returned (.int .i64 (bl N : Int)) ∧ w = w' := by
 obtain ⟨A, c, xs, rfl, hc, rx, wx, rfl⟩ := hx;rw [← wx.len aJ, aC] at h;by_cases h0 : xs.length = 0
 ·obtain rfl : xs = [] := List.eq_nil_of_length_eq_zero h0;have h2 : ((0 : Int) == 0) = true := rfl;rw [show bl (vl B30 []) = 0 from mF];simp only [List.length_nil];clear h0;go_enter Tryz.func163, Tryz.ntmps163
  go_wp2
  go_ret
  exact ⟨rfl, rfl⟩
 ·obtain ⟨n, hn⟩ : ∃ n, xs.length = n + 1 := ⟨xs.length - 1, by omega⟩
  obtain ⟨ad, rfl, hb, hcx⟩ := rx.at_ (k := n) (by omega);have ba : xs[n] < 1073741824 := wx.1 _ (List.getElem_mem _);have bz : 0 < xs[n] := by
   have h1 := wx.2;rw [Nz, List.getLast?_eq_getElem?, hn, Nat.add_sub_cancel, List.getElem?_eq_getElem (by omega)] at h1;simp at h1; omega
  have hB := aAB (p := 30) (n := n) wx.1 hn (List.getElem?_eq_getElem (by omega)) bz;change bl (vl B30 xs) = _ at hB;rw [hn, hB];clear hB hc wx;generalize xs[n] = t0 at *
  have h2 : ((n : Int) + 1 == 0) = false := (by simp; omega);have hbl : bl t0 ≤ 30 := (bJ _ _).2 ba;go_enter Tryz.func163, Tryz.ntmps163
  go_wp2
  go_loop [3, 4] (fun nv tv => ∃ (m t : Nat), nv = .int .i64 (m : Int) ∧ tv = .int .i64 (t : Int) ∧ m + bl t = 30 * n + bl t0 ∧ t < 1073741824) (fun _ tv => (intOf tv).toNat)
  case atStart => exact ⟨30 * n, t0, congrArg (Value.int _) (by omega), rfl, rfl, ba⟩
  case round =>
   obtain ⟨m, t, rfl, rfl, hm, ht⟩ := hrel;by_cases hp : 0 < t
   ·have hm2 : m + 1 + bl (t / 2) = 30 * n + bl t0 := (by rw [jU hp] at hm; omega);have hm1 : m ≤ 30 * n + 30 := (by omega);have HM := yW hm2; clear hm hm2;go_wp2
    exact ⟨⟨m + 1, t / 2, by go_num, congrArg (Value.int _) (by omega), HM.out, by omega⟩, by simp [intOf]; omega⟩
   ·obtain rfl : t = 0 := (by omega);rw [mF] at hm;have HM := yW hm; clear hm;go_wp2
    go_ret
    exact ⟨mQ (by have := HM.out; omega), rfl⟩
theorem wM (x : Value) (N : Nat) (w : World) (hx : Nr w x N) (h : dg B30 N ≤ LIM) (h0 : 0 < N) : Calls Tryz.prog 141 #[x] w fun e w' => e = .returned (.int .i64 (tz N : Int)) ∧ w = w' := by
 obtain ⟨A, c, xs, rfl, hc, rx, wx, rfl⟩ := hx;rw [← wx.len aJ, aC] at h;go_enter Tryz.func141, Tryz.ntmps141
 go_wp2
 go_loop [3] (fun nv => ∃ (q : Nat), nv = .int .i64 (30 * (q : Int)) ∧ q < xs.length ∧ ∀ j, j < q → xs[j]? = some 0) (fun nv => xs.length * 30 - (intOf nv).toNat)
 case atStart =>
  refine ⟨0, rfl, ?_, by omega⟩;rcases xs with _ | _
  ·simp [vl] at h0
  ·simp
 case round =>
  obtain ⟨q, rfl, hq, hz⟩ := hrel;obtain ⟨ad, rfl, hb, hcx⟩ := rx.at_ hq;have ba : xs[q] < 1073741824 := wx.1 _ (List.getElem_mem _);by_cases hx0 : xs[q] = 0
  ·have hnext : q + 1 < xs.length := by
    rcases Nat.lt_or_ge (q + 1) xs.length with h1 | h1
    ·exact h1
    ·exfalso;have h2 := wx.2;rw [Nz, List.getLast?_eq_getElem?, show xs.length - 1 = q by omega, List.getElem?_eq_getElem hq, hx0] at h2;exact h2 rfl
   have hz2 : ∀ j, j < q + 1 → xs[j]? = some 0 := by
    intro j hj;rcases Nat.lt_or_ge j q with h1 | h1
    ·exact hz j h1
    ·obtain rfl : j = q := (by omega);rw [List.getElem?_eq_getElem hq, hx0]
   have HZ2 := yW hz2; clear hz2 hz;have h3 : ((xs[q] : Int) == 0) = true := (by simp [hx0]);clear hx0;generalize xs[q] = t at *
   go_wp2
   exact ⟨⟨q + 1, congrArg (Value.int _) (by omega), hnext, HZ2.out⟩, by simp [intOf]; omega⟩
  ·have hB := aAC (p := 30) (q := q) hz (List.getElem?_eq_getElem hq) (by omega) ba;change tz (vl B30 xs) = _ at hB;have HB := yW hB;have h3 : ((xs[q] : Int) == 0) = false := (by simp; omega);clear hB hz wx h0 hc;have hpos : 0 < xs[q] := (by omega);clear hx0;have htz : tz xs[q] ≤ 30 := by
    rcases Nat.lt_or_ge 30 (tz xs[q]) with h1 | h1
    ·exfalso;have h2 := (gH hpos).1;have h4 : 0 < xs[q] / 2 ^ tz xs[q] := by
      rcases Nat.eq_zero_or_pos (xs[q] / 2 ^ tz xs[q]) with h5 | h5
      ·rw [h5] at h2; omega
      ·exact h5
     have h5 := Nat.mul_le_mul_left (2 ^ tz xs[q]) h4;have h6 : 2 ^ 30 ≤ 2 ^ tz xs[q] := Nat.pow_le_pow_right (by decide) (by omega);have h7 : (2 : Nat) ^ 30 = 1073741824 := rfl;omega
    ·exact h1
   generalize xs[q] = t0 at *
   go_wp2
   go_loop [3, 4] (fun nv tv => ∃ (m t : Nat), nv = .int .i64 (m : Int) ∧ tv = .int .i64 (t : Int) ∧ m + tz t = 30 * q + tz t0 ∧ t < 1073741824 ∧ 0 < t) (fun _ tv => (intOf tv).toNat)
   case atStart => exact ⟨30 * q, t0, congrArg (Value.int _) (by omega), rfl, rfl, ba, hpos⟩
   case round =>
    obtain ⟨m, t, rfl, rfl, hm, ht, ht0⟩ := hrel;by_cases hp : t % 2 = 0
    ·have hm2 : m + 1 + tz (t / 2) = 30 * q + tz t0 := (by rw [mG ht0 hp] at hm; omega);have hm1 : m ≤ 30 * q + 30 := (by omega);have HM := yW hm2; clear hm hm2;have h4 : ((t : Int) % 2 == 0) = true := (by simp; omega);have ht2 : 2 ≤ t := (by omega);clear hp;go_wp2
     exact ⟨⟨m + 1, t / 2, by go_num, congrArg (Value.int _) (by omega), HM.out, by omega, by omega⟩, by simp [intOf]; omega⟩
    ·rw [rD (by omega)] at hm;have HM := yW hm; clear hm;have h4 : ((t : Int) % 2 == 0) = false := (by simp; omega);clear hp;go_wp2
     go_ret
     exact ⟨mQ (by have := HM.out; have := HB.out; omega), rfl⟩
theorem sG (x : Value) (N k : Nat) (z : Int) (w : World) (hx : Nr w x N) (hz : z = (k : Int)) (h : dg B30 N ≤ LIM) (hk : k ≤ 4611686018427387904) : Calls Tryz.prog 142 #[x, .int .i64 z] w (nD (N / 2 ^ k) w) := by
 subst hz;obtain ⟨A, c, xs, rfl, hc, rx, wx, rfl⟩ := hx;rw [← wx.len aJ] at h;have hq30 : 2 ^ k = B30 ^ (k / 30) * 2 ^ (k % 30) := by
  rw [show B30 = 2 ^ 30 from rfl, ← Nat.pow_mul, ← Nat.pow_add, Nat.div_add_mod]
 rw [hq30, ← Nat.div_div_eq_div_mul];clear hq30;by_cases hlt : xs.length ≤ k / 30
 ·have e : vl B30 xs / B30 ^ (k / 30) / 2 ^ (k % 30) = 0 := by
   rw [show vl B30 xs / B30 ^ (k / 30) = 0 from Nat.div_eq_of_lt ?_, Nat.zero_div];exact Nat.lt_of_lt_of_le (dW wx.1) (Nat.pow_le_pow_right (by decide) hlt)
  rw [e];clear e;rw [aC] at h;go_enter Tryz.func142, Tryz.ntmps142
  go_wp2
  go_ret
  exact ⟨_, rfl, Nn.zero _ _, Q.refl _, Nw.nil⟩
 ·rw [← iM (by decide) (by omega) wx.1];obtain ⟨ad, rfl, hbk, _⟩ := rx.at_ (k := 0) (by omega);have rz := rx.drop (k := k / 30) hc;rw [if_neg (by omega)] at rz;simp only [Option.map_some] at rz;have mz : ∀ d ∈ xs.drop (k / 30), d < B30 := gJ wx.1;have hlz : (xs.drop (k / 30)).length = xs.length - k / 30 := (by rw [List.length_drop]);have hmk := sD (xs.length - k / 30) ((xs.length - k / 30 : Nat) : Int) rfl (by omega);rw [aC] at h;have HZ := yW hlz; clear hlz;have HE := yW (aBO (k % 30) (by omega));have hf1 : 2 ^ (k % 30) ≤ 536870912 := by
   have h1 : 2 ^ (k % 30) ≤ 2 ^ 29 := Nat.pow_le_pow_right (by decide) (by omega);exact h1
  have hf0 : 0 < 2 ^ (k % 30) := Nat.pow_pos (by decide);have HG := yW (show B30 = 2 ^ (k % 30) * 2 ^ (30 - k % 30) by rw [← Nat.pow_add, show k % 30 + (30 - k % 30) = 30 by omega]; rfl);have hg1 : 2 ^ (30 - k % 30) ≤ 1073741824 := by
   have h1 : 2 ^ (30 - k % 30) ≤ 2 ^ 30 := Nat.pow_le_pow_right (by decide) (by omega);exact h1
  go_enter Tryz.func142, Tryz.ntmps142
  go_wp2_with fail
  rw [HE.out];clear HE hmk;have hfg : (1073741824 : Int) / ((2 ^ (k % 30) : Nat) : Int) = ((2 ^ (30 - k % 30) : Nat) : Int) := by
   have := HG.out;rw [aO] at this;rw [show (1073741824 : Int) = ((1073741824 : Nat) : Int) from rfl, this, ← Int.natCast_ediv, Nat.mul_div_cancel_left _ hf0]
  have HFG := yW hfg; clear hfg;generalize 2 ^ (k % 30) = f at *
  generalize 2 ^ (30 - k % 30) = g at *
  generalize ad.add (k / 30) = az at *
  generalize xs.drop (k / 30) = zl at *
  have hn : zl.length ≤ 1099511627776 := (by rw [HZ.out]; omega);have hn0 : 0 < xs.length - k / 30 := (by omega);have hn1 : xs.length - k / 30 ≤ 1099511627776 := (by omega);clear rx;generalize xs.length - k / 30 = n at *
  go_loopw [7] (fun iv w1 => ∃ (i : Nat) (out : List Nat), i ≤ n ∧ iv = .int .i64 (i : Int) ∧
   out.length = n ∧ (∀ d ∈ out, d < B30) ∧ f * vl B30 (out.take i) + zl.getD 0 0 % f = vl B30 (zl.take i) + B30 ^ i * (zl.getD i 0 % f) ∧
   Blk .i64 w1 w.heap.size 2 out ∧ Q w w1) (fun iv _ => n - (intOf iv).toNat)
  case atStart => exact ⟨0, List.replicate n 0, by omega, rfl, by simp, eD (by decide), by simp [vl], Blk.made _ _ _, (Q.refl _).alloc _⟩
  case round =>
   obtain ⟨i, out, hi1, rfl, hl, ho, hv, hb, hq⟩ := hrel;have HV := yW hv; clear hv;have HL := yW hl; clear hl;by_cases hlt1 : i < n
   ·have hiz : i < zl.length := (by rw [HZ.out]; exact hlt1);obtain ⟨_, he, hbz, hcx⟩ := (rz.below hq).at_ hiz;cases he;have bx : zl[i] < 1073741824 := mz _ (List.getElem_mem _);have hio : i < out.length := (by rw [HL.out]; exact hlt1);have hcell := hb.cell hio;generalize out[i] = o at *
    clear hio;have hfz := hb.frozen i;have hgd : zl.getD i 0 = zl[i] := (by rw [List.getD_eq_getElem?_getD, List.getElem?_eq_getElem hiz]; rfl);have HD := yW hgd; clear hgd;generalize zl[i] = x at *
    clear hiz;have hxf : (x : Int) / f ≤ 1073741823 := by
     have := Nat.div_le_self x f;have e : ((x / f : Nat) : Int) = (x : Int) / f := Int.natCast_ediv _ _;omega
    have hxf0 : 0 ≤ (x : Int) / f := Int.ediv_nonneg (by omega) (by omega);have HXF := yW (show ((x / f : Nat) : Int) = (x : Int) / f from Int.natCast_ediv _ _);by_cases hlt2 : i + 1 < n
    ·have hiz : i + 1 < zl.length := (by rw [HZ.out]; exact hlt2);obtain ⟨_, he, hbz', hcx2⟩ := (rz.below hq).at_ hiz;cases he;have by_ : zl[i + 1] < 1073741824 := mz _ (List.getElem_mem _);have hgd : zl.getD (i + 1) 0 = zl[i + 1] := (by rw [List.getD_eq_getElem?_getD, List.getElem?_eq_getElem hiz]; rfl);have HD2 := yW hgd; clear hgd;generalize zl[i + 1] = y at *
     clear hiz;have hyf := Nat.mod_lt y hf0;have HYF := yW (show ((y % f : Nat) : Int) = (y : Int) % f from Int.natCast_emod _ _);have hyg : (y : Int) % f * g ≤ 1073741824 := by
      have h1 := Nat.mul_le_mul_right g (Nat.le_of_lt hyf);have h2 := HG.out;rw [aO] at h2;rw [← HYF.out, ← Int.natCast_mul];omega
     have hyg0 : 0 ≤ (y : Int) % f * g := Int.mul_nonneg (by rw [← HYF.out]; omega) (by omega);have hyi : (y : Int) % f < f := (by rw [← HYF.out]; omega);have hyi0 : 0 ≤ (y : Int) % f := (by rw [← HYF.out]; omega);have hD : (1073741824 : Int) / f ≤ 1073741824 := (by rw [HFG.out]; omega);have hD0 : 0 ≤ (1073741824 : Int) / f := (by rw [HFG.out]; omega);have hyD : (y : Int) % f * (1073741824 / f) ≤ 1073741824 := (by rw [HFG.out]; exact hyg);have hyD0 : 0 ≤ (y : Int) % f * (1073741824 / f) := (by rw [HFG.out]; exact hyg0);clear hyg hyg0;go_wp2
     have hb5 := hb.put i (x / f) (e := (x : Int) / f) HXF.out.symm;have hq5 := hq.setCell (p := ⟨w.heap.size, i, none⟩) (Nat.le_refl _) (.int .i64 ((x : Int) / f));generalize wr.setCell ⟨w.heap.size, i, none⟩ (.int .i64 ((x : Int) / f)) = w5 at *
     have hcx5 : w5.cell? (az.add (i + 1)) = some (.int .i64 (y : Int)) := by
      have h1 := (hq.cell (p := az.add (i + 1)) (by rw [fQ]; exact hbz)).symm.trans hcx2;exact (hq5.cell (by rw [fQ]; exact hbz)).trans h1
     have hc5 : w5.cell? ⟨w.heap.size, i, none⟩ = some (.int .i64 ((x : Int) / f)) := by
      rw [hb5.cell (by rw [List.length_set, HL.out]; exact hlt1)];simp [HXF.out]
     have hf5 := hb5.frozen i;clear hcx2 hcell hfz hcx;rw [aFK] at hcx5;go_region
     go_wp2
     have hE := HG.out;have hxg : x / f < g := by
      rw [Nat.div_lt_iff_lt_mul hf0, Nat.mul_comm, ← hE]; rw [aO]; exact bx
     have ho' : x / f + y % f * g < B30 := by
      have h1 : (y % f + 1) * g ≤ f * g := Nat.mul_le_mul_right g hyf;rw [Nat.add_mul, Nat.one_mul, ← hE] at h1;omega
     have hcast : (x : Int) / f + (y : Int) % f * (1073741824 / f) = ((x / f + y % f * g : Nat) : Int) := by
      rw [HFG.out, Int.natCast_add, Int.natCast_mul, HXF.out, HYF.out]
     refine ⟨⟨i + 1, (out.set i (x / f)).set i (x / f + y % f * g), by omega, by go_num, by rw [List.length_set, List.length_set, HL.out], dX (dX ho (by rw [aO]; have := Nat.div_le_self x f; omega)) ho', ?_, (hb5.put i _ hcast).drew, (hq5.setCell (Nat.le_refl _) _).drew⟩, by simp [intOf]; omega⟩;have hv := HV.out;rw [HD.out] at hv;rw [List.set_set, dG _ (by rw [HL.out]; omega), uM, HD.out, HD2.out];exact yF hE hv rfl
    ·have hD2 : zl.getD (i + 1) 0 = 0 := by
      rw [List.getD_eq_getElem?_getD, List.getElem?_eq_none (by rw [HZ.out]; omega)]; rfl
     go_wp2
     refine ⟨⟨i + 1, out.set i (x / f), by omega, by go_num, by rw [List.length_set, HL.out], dX ho (by rw [aO]; have := Nat.div_le_self x f; omega), ?_, hb.put i (x / f) HXF.out.symm, hq.setCell (Nat.le_refl _) _⟩, by simp [intOf]; omega⟩;have hv := HV.out;rw [HD.out] at hv;rw [dG _ (by rw [HL.out]; omega), uM, HD.out, hD2];exact yF (y := 0) HG.out hv (by simp)
   ·obtain rfl : i = n := (by omega);go_wp2_with fail
    refine (lZ _ _ (w.heap.size + 1) _ _ _ HL.out (Nat.le_refl _) (by omega) (hb.rd (Nat.lt_succ_self _))).mono ?_;rintro e w2 ⟨k2, hk2, rfl, hnz, hv, rfl⟩;go_wp2
    go_ret
    refine ⟨_, rfl, Nn.of_blk hb hk2 (by rw [HL.out] at hk2; exact hk2) hnz ho ?_, hq, Nw.at_ (Nat.le_refl _)⟩;rw [hv];have h := HV.out;rw [List.take_of_length_le (by rw [HL.out]; omega), List.take_of_length_le (by rw [HZ.out]; omega), show zl.getD i 0 = 0 by rw [List.getD_eq_getElem?_getD, List.getElem?_eq_none (by rw [HZ.out]; omega)]; rfl, Nat.zero_mod, Nat.mul_zero, Nat.add_zero] at h;rw [← h, Nat.mul_add_div hf0, Nat.div_eq_of_lt (Nat.mod_lt _ hf0), Nat.add_zero]
theorem qL (x y : Value) (M N : Nat) (w : World) (hx : Nr w x M) (hy : Nr w y N) (hN : 0 < N) (lM : dg B30 M + 40 ≤ LIM) (lN : dg B30 N + 40 ≤ LIM) :
  Calls Tryz.prog 139 #[x, y] w fun e w' => ∃ u v, e = .returned (.tuple #[u, v]) ∧ Nr w' u (M / N) ∧ Nr w' v (M % N) ∧ Q w w' := by
 rcases Nat.lt_or_ge M N with hlt | hge
 ·have hc := gM hlt;have HC := yW hc; clear hc;go_enter Tryz.func139, Tryz.ntmps139
  go_wp2_with fail
  refine (fD _ _ M N _ hx hy (by omega) (by omega)).mono ?_;rintro e w1 ⟨rfl, hq1⟩;rw [HC.out];go_wp2
  go_ret2
  rw [Nat.div_eq_of_lt hlt, Nat.mod_eq_of_lt hlt];exact ⟨_, _, rfl, Nn.zero _ _, hx.q hq1, hq1⟩
 ·have hc : 0 ≤ cmp M N := by
   unfold cmp; rw [if_neg (by omega)]; split <;> omega
  obtain ⟨k, hk⟩ : ∃ k, k = (30 - bl N % 30) % 30 := ⟨_, rfl⟩
  have hk30 : k < 30 := (by omega);have hki : (k : Int) = (30 - (bl N : Int) % 30) % 30 := (by omega);have HK := yW hki; clear hki hk;go_enter Tryz.func139, Tryz.ntmps139
  go_wp2_with fail
  refine (fD _ _ M N _ hx hy (by omega) (by omega)).mono ?_;rintro e w1 ⟨rfl, hq1⟩;have hx1 := hx.q hq1;have hy1 := hy.q hq1;go_wp2_with fail
  refine (aCe _ N _ hy1 (by omega)).mono ?_;rintro e w1 ⟨rfl, rfl⟩;go_wp2_with fail
  have hp1 : dg B30 (2 ^ k) ≤ 1 := by
   refine fT aJ ?_;rw [Nat.pow_one];exact Nat.lt_of_le_of_lt (Nat.pow_le_pow_right (by decide) (show k ≤ 29 by omega)) (by decide)
  have l1 := cO aJ M (2 ^ k);have l2 := cO aJ N (2 ^ k);refine (kU _ M k _ _ hx1 (by have := HK.out; omega) (by omega)).mono ?_;rintro e w2 ⟨va, rfl, ha, hq2, -⟩;go_wp2_with fail
  refine (kU _ N k _ _ (hy1.q hq2) (by have := HK.out; omega) (by omega)).mono ?_;rintro e w3 ⟨vb, rfl, hb, hq3, -⟩;have ha3 := ha.q hq3;clear ha hx hy hx1 hy1;have hq := (hq1.trans hq2).trans hq3;clear hq1 hq2 hq3;have hf0 : 0 < 2 ^ k := Nat.pow_pos (by decide);have hV0 : 0 < N * 2 ^ k := Nat.mul_pos hN hf0;have hb3 := hb;obtain ⟨A, c, xs, rfl, hcx, rx, wx, hvx⟩ := ha3;obtain ⟨B, d, ys, rfl, hcy, ry, wy, hvy⟩ := hb;have lx := wx.len aJ;have ly := wy.len aJ;rw [hvx] at lx;rw [hvy] at ly;have hmk := sD xs.length (xs.length : Int) rfl (by omega);have lxs : xs.length + 30 ≤ 1099511627776 := (by have := aC; omega);have lys : ys.length + 30 ≤ 1099511627776 := (by have := aC; omega);have hys0 : 0 < ys.length := by
   rcases Nat.eq_zero_or_pos ys.length with h0 | h0
   ·rw [ly] at h0; have := bI aJ h0; omega
   ·exact h0
  have HX := yW hvx; clear hvx;have HY := yW hvy; clear hvy;have LX := yW lx; clear lx;have LY := yW ly; clear ly;obtain ⟨i0, hi0, hz0, hz1, hz2⟩ := info_parts uC;go_wp2
  clear hmk hb3 hc lM lN l1 l2 hp1
  go_loopw [9, 10] (fun rv iv w4 => ∃ (j R : Nat) (out : List Nat), j ≤ xs.length ∧ iv = .int .i64 ((j : Int) - 1) ∧ Nr w4 rv R ∧ R < N * 2 ^ k ∧
      vl B30 (xs.drop j) = vl B30 (out.drop j) * (N * 2 ^ k) + R ∧ out.take j = List.replicate j 0 ∧ out.length = xs.length ∧ (∀ d ∈ out, d < B30) ∧
      Blk .i64 w4 w3.heap.size 2 out ∧ Q w3 w4) (fun _ iv _ => (intOf iv + 1).toNat)
  case atStart =>
   exact ⟨xs.length, 0, List.replicate xs.length 0, by omega, rfl, Nn.zero _ _, hV0, by simp [vl], by simp, by simp, eD (by decide), Blk.made _ _ _, (Q.refl _).alloc _⟩
  case round =>
   obtain ⟨j, R, out, hj, rfl, hr, hR, hv, htk, hl, ho, hbk, hq4⟩ := hrel;have HV := yW hv; clear hv;have HL := yW hl; clear hl;have HT := yW htk; clear htk;by_cases hlt : 0 < j
   ·obtain ⟨i, rfl⟩ : ∃ i, j = i + 1 := ⟨j - 1, by omega⟩
    rw [show ((i + 1 : Nat) : Int) - 1 = (i : Int) from by omega];obtain ⟨ad, rfl, hbx, hcx'⟩ := (rx.below hq4).at_ (k := i) (by omega);have bx : xs[i] < 1073741824 := wx.1 _ (List.getElem_mem _);have HD := yW (dQ B30 (show i < xs.length by omega));generalize xs[i] = a at *
    obtain ⟨A2, c2, rs, rfl, hc2, rr, wr2, hvr⟩ := hr;have HR := yW hvr; clear hvr;have lrs : rs.length ≤ ys.length := by
     have := wr2.len aJ;rw [HR.out] at this;rw [this, LY.out];exact aU aJ (Nat.le_of_lt hR)
    go_wp2_with (at_builtin; go_loud (refine yX rfl _ _ _ rfl (w3.heap.size + 1) 2 i0 (.int .i64 0) 8 Tryz.underlying31 hi0 hz0 hz1 hz2 rfl _ 1 [a] rfl (aGc _ _ _ a rfl hbk.lt) wr.heap.size A2 rs.length c2 rs rfl rfl (rr.alloc (Nat.le_refl _) _) (by unfold maxLen; omega) (by omega) (by have := hbk.lt; simp; omega) ?_); intro v5 w5 hown hg5 hat)
    obtain ⟨g2, cap2, rfl, hg2, hg2lt, hn2, hm2, hl2, hrd2⟩ := aC9 hown (by omega);have hq5 : Q wr w5 := Q.grown ((Q.refl wr).alloc _) hg5 (fun k e => Nat.le_of_eq (Option.some.inj e));refine (lZ _ _ w5.heap.size _ ([a] ++ rs) _ hl2 hn2 (by omega) hrd2).mono ?_;rintro e w6 ⟨k6, hk6, rfl, hnz6, hv6, rfl⟩;have hR0 : a + B30 * R < N * 2 ^ k * B30 := aEi (by rw [aO]; exact bx) hR;have hr6 : Nr w5 (.slice (some ⟨g2, 0, none⟩) k6 cap2) (a + B30 * R) := by
     refine ⟨some ⟨g2, 0, none⟩, cap2, ([a] ++ rs).take k6, ?_, ?_, hrd2.take k6, ⟨aP ?_, hnz6⟩, ?_⟩
     ·rw [List.length_take, Nat.min_eq_left hk6]
     ·rw [List.length_take, Nat.min_eq_left hk6]; omega
     ·intro d hd;simp only [List.singleton_append, List.mem_cons] at hd;rcases hd with rfl | hd
      ·rw [aO]; exact bx
      ·exact wr2.1 d hd
     ·rw [hv6, List.singleton_append, dL, HR.out]
    have hnw6 : Nw (w3.heap.size + 1) (.slice (some ⟨g2, 0, none⟩) k6 cap2) := Nw.at_ hg2;generalize Value.slice (some ⟨g2, 0, none⟩) k6 cap2 = v6 at *
    have hbk5 := hbk.q hq5;have hq35 := hq4.trans hq5;clear hown hg5 hat hrd2 hbk hq4 hq5;have ho0 : out[i]? = some 0 := by
     have h1 : (out.take (i + 1))[i]? = some 0 := by rw [HT.out]; simp
     rwa [List.getElem?_take_of_lt (Nat.lt_succ_self _)] at h1
    have hset0 : out.set i 0 = out := by
     obtain ⟨hi, he⟩ := List.getElem?_eq_some_iff.1 ho0;rw [← he, List.set_getElem_self]
    have HS := yW hset0; clear hset0;have HO := yW ho0; clear ho0;go_wp2
    obtain ⟨wo, rfl⟩ : ∃ wo : World, wo = w5 := ⟨_, rfl⟩
    go_loopg [9] (a + B30 * R) (fun gk rv w7 => ∃ o, Nr w7 rv gk ∧ Nw (w3.heap.size + 1) rv ∧ o * (N * 2 ^ k) + gk = a + B30 * R ∧ Blk .i64 w7 w3.heap.size 2 (out.set i o) ∧ Q w3 w7)
    case atStart => exact ⟨0, hr6, hnw6, by omega, by rw [HS.out]; exact hbk5, hq35⟩
    case round =>
     obtain ⟨w7, rfl⟩ : ∃ w7 : World, w7 = wr := ⟨_, rfl⟩
     obtain ⟨o, hrr, hnw, hsum, hbk7, hq7⟩ := hrel;have HSUM := yW hsum; clear hsum;have ho1 : o < B30 := aAD HSUM.out hR0;have hb7 : Nr w7 (.slice B ys.length d) (N * 2 ^ k) := ⟨B, d, ys, rfl, hcy, ry.q hq7, wy, HY.out⟩
     have hgk : dg B30 gk ≤ ys.length + 1 := aG9 aJ HSUM.out hR0 LY.out;rcases Nat.lt_or_ge gk (N * 2 ^ k) with hlt8 | hge8
     ·have HC := yW (gM hlt8);go_wp2_with fail
      refine (fD _ _ gk (N * 2 ^ k) _ hrr hb7 (by rw [aC]; omega) (by rw [← LY.out, aC]; omega)).mono ?_;rintro e w8 ⟨rfl, hq8⟩;rw [HC.out];go_wp2
      refine ⟨⟨i, gk, out.set i o, by omega, rfl, hrr.q hq8, hlt8, ?_, ?_, by rw [List.length_set, HL.out], dX ho ho1, hbk7.q hq8, hq7.trans hq8⟩, by simp [intOf]⟩
      ·have hi : i < out.length := (by rw [HL.out]; omega);rw [HD.out, HV.out, dQ B30 (ds := out.set i o) (j := i) (by rw [List.length_set]; exact hi), List.getElem_set_self, drop_set (by omega)];exact xK HSUM.out
      ·rw [List.take_set_of_le (Nat.le_refl _)];have h1 := congrArg (List.take i) HT.out;rw [List.take_take, Nat.min_eq_left (by omega), List.take_replicate, Nat.min_eq_left (by omega)] at h1;exact h1
     ·have hc : 0 ≤ cmp gk (N * 2 ^ k) := by
       unfold cmp; rw [if_neg (by omega)]; split <;> omega
      go_wp2_with fail
      refine (fD _ _ gk (N * 2 ^ k) _ hrr hb7 (by rw [aC]; omega) (by rw [← LY.out, aC]; omega)).mono ?_;rintro e w8 ⟨rfl, hq8⟩;generalize cmp gk (N * 2 ^ k) = cv at *
      have hrr8 := hrr.q hq8;have hb8 := hb7.q hq8;obtain ⟨A7, c7, r7, rfl, hc7, rr7, wr7, hv7⟩ := hrr8;have l7 := wr7.len aJ;rw [hv7] at l7;have HV7 := yW hv7;have l7a : ys.length ≤ r7.length := (by rw [l7, LY.out]; exact aU aJ hge8);have l7b : r7.length ≤ ys.length + 1 := (by omega);have lgk : dg B30 gk + 1 ≤ LIM := (by rw [aC]; omega);clear hgk l7;have hn1 : ys.length - 1 < r7.length := (by omega);have hn2 : ys.length - 1 < ys.length := (by omega);obtain ⟨a7, rfl, hba7, hca7⟩ := rr7.at_ hn1;obtain ⟨a8, rfl, hba8, hca8⟩ := (ry.below (hq7.trans hq8)).at_ hn2;have bt7 : r7[ys.length - 1] < 1073741824 := wr7.1 _ (List.getElem_mem _);have bt8 : ys[ys.length - 1] < 1073741824 := wy.1 _ (List.getElem_mem _);have ebt : ys[ys.length - 1] = N * 2 ^ k / B30 ^ (ys.length - 1) := by
       rw [← HY.out, ← iM (by decide) (by omega) wy.1];exact (drop_one (by omega)).symm
      have HBT := yW ebt; clear ebt;have hVd : N * 2 ^ k / B30 ^ (ys.length - 1) < 1073741824 := (by rw [← HBT.out]; exact bt8);have hP : 0 < B30 ^ (ys.length - 1) := Nat.pow_pos (by decide);have HG := aFL (R := gk) (V := N * 2 ^ k) hP;have hnw7 := hnw a7 r7.length c7 rfl;rcases Nat.lt_or_ge ys.length r7.length with h8 | h8
      case' inl =>
       obtain ⟨a9, e9, hba9, hca9⟩ := rr7.at_ h8;cases e9;have bt9 : r7[ys.length] < 1073741824 := wr7.1 _ (List.getElem_mem _);have etop : r7[ys.length - 1] + B30 * r7[ys.length] = gk / B30 ^ (ys.length - 1) := by
        rw [← HV7.out, ← iM (by decide) (by omega) wr7.1, sS (n := ys.length - 1) (by omega)];simp only [show ys.length - 1 + 1 = ys.length by omega]
       rw [← etop, ← HBT.out] at HG;have hdq : ((r7[ys.length - 1] : Int) + (r7[ys.length] : Int) * 1073741824) / ((ys[ys.length - 1] : Int) + 1) = (((r7[ys.length - 1] + B30 * r7[ys.length]) / (ys[ys.length - 1] + 1) : Nat) : Int) := by
        rw [aO, Int.natCast_ediv, Int.natCast_add, Int.natCast_add, Int.natCast_mul, Int.mul_comm]; rfl
       generalize (r7[ys.length - 1] + B30 * r7[ys.length]) / (ys[ys.length - 1] + 1) = dq at *
       clear etop;generalize r7[ys.length] = t2 at *
      case' inr =>
       have etop : r7[ys.length - 1] = gk / B30 ^ (ys.length - 1) := by
        rw [← HV7.out, ← iM (by decide) (by omega) wr7.1];exact (drop_one (by omega)).symm
       rw [← etop, ← HBT.out] at HG;have hdq : (r7[ys.length - 1] : Int) / ((ys[ys.length - 1] : Int) + 1) = ((r7[ys.length - 1] / (ys[ys.length - 1] + 1) : Nat) : Int) := by
        rw [Int.natCast_ediv, Int.natCast_add]; rfl
       generalize r7[ys.length - 1] / (ys[ys.length - 1] + 1) = dq at *
       clear etop
      all_goals
       clear HBT hVd;generalize r7[ys.length - 1] = t1 at *
       generalize ys[ys.length - 1] = bt at *
       have hcq := (hbk7.q hq8).cell (i := i) (by rw [List.length_set, HL.out]; omega);rw [List.getElem_set_self] at hcq;have hfq := (hbk7.q hq8).frozen i;have hd : ∃ d : Nat, 1 ≤ d ∧ d * (N * 2 ^ k) ≤ gk ∧ (dq = 0 ∧ d = 1 ∨ 1 ≤ dq ∧ d = dq) := by
        rcases Nat.eq_zero_or_pos dq with h0 | h0
        ·exact ⟨1, Nat.le_refl _, by omega, Or.inl ⟨h0, rfl⟩⟩
        ·exact ⟨dq, h0, HG, Or.inr ⟨h0, rfl⟩⟩
       obtain ⟨d, hd1, hdV, hdq2⟩ := hd;have hob : o + d < B30 := aAD (g := gk - d * (N * 2 ^ k)) (by rw [Nat.add_mul]; have := HSUM.out; omega) hR0;have ho3 : o < 1073741824 := (by rw [aO] at ho1; exact ho1);have hd3 : d < 1073741824 := (by rw [aO] at hob; omega);have hQ9 : ∀ u, Q w3 (w8.setCell ⟨w3.heap.size, i, none⟩ u) := fun u => (hq7.trans hq8).setCell (Nat.le_refl _) u;have hR9 : ∀ u, Nr (w8.setCell ⟨w3.heap.size, i, none⟩ u) (.slice (some a7) r7.length c7) gk := fun u =>
        ⟨some a7, c7, r7, rfl, hc7, (fun hn => by
         obtain ⟨ad, e, hb, hc, cs9, fr9, ht9⟩ := rr7 hn;cases e;refine ⟨a7, rfl, by simpa [World.setCell] using hb, fun j d hd => ?_, cs9, fr9, (Below.heap_setCell _ _ _ _ (by simp; omega)).trans ht9⟩;rw [World.cell?_setCell_other _ _ _ _ (by intro e; have := congrArg Addr.block e; rw [fQ] at this; simp at this; omega)];exact hc j d hd), wr7, HV7.out⟩
       have hB9 : ∀ u : Int, u = ((o + d : Nat) : Int) → Blk .i64 (w8.setCell ⟨w3.heap.size, i, none⟩ (.int .i64 u)) w3.heap.size 2 (out.set i (o + d)) := fun u hu => by
        have h := (hbk7.q hq8).put i (o + d) hu
        rwa [List.set_set] at h
       have hsum2 : (o + d) * (N * 2 ^ k) + (gk - N * 2 ^ k * d) = a + B30 * R := by
        rw [Nat.add_mul, Nat.mul_comm (N * 2 ^ k) d]; have := HSUM.out; omega
       have HS2 := yW hsum2; clear hsum2;have hle9 : N * 2 ^ k * d ≤ gk := (by rw [Nat.mul_comm]; exact hdV);have ldd : dg B30 d ≤ 1 := fT aJ (by rw [Nat.pow_one, aO]; omega);have lV : dg B30 (N * 2 ^ k) + dg B30 d + 2 ≤ LIM := (by rw [← LY.out, aC]; omega);have hdq3 : dq < 1073741824 := (by omega);rcases hdq2 with ⟨rfl, hdd⟩ | ⟨hdq1, hdd⟩
      all_goals
       have HDD := yW hdd; clear hdd;go_wp2_with fail
       refine (wL _ d _ (by have := HDD.out; omega) (by omega)).mono ?_;rintro e w10 ⟨vs, rfl, hs, hq10, -⟩;have hR10 := (hR9 _).q hq10;have hB10 := (hB9 _ (by have := HDD.out; omega)).q hq10;have hq310 := (hQ9 _).trans hq10;clear hR9 hB9 hQ9 hq10;go_wp2_with fail
       refine (iH _ _ (N * 2 ^ k) d _ ⟨some a8, _, ys, rfl, hcy, ry.q hq310, wy, HY.out⟩ hs lV).mono ?_;rintro e w11 ⟨vt, rfl, ht, hq11, -⟩;go_wp2_with fail
       refine (kL _ _ gk (N * 2 ^ k * d) _ (hR10.q hq11) ht hle9 lgk).mono ?_;rintro e w12 ⟨vm, rfl, hm, hq12, hnwm⟩;have hB12 := hB10.q (hq11.trans hq12);have hq312 := hq310.trans (hq11.trans hq12);have hnw12 : Nw (w3.heap.size + 1) vm := hnwm.more (by have := hB10.lt; have := hq11.size; omega);clear hB10 hq310 hR10 ht hs hq11 hq12 hnwm hcq hfq hca7 hca8;go_wp2_with fail
       go_roundg (gk - N * 2 ^ k * d)
       case measure =>
        have : 1 * (N * 2 ^ k) ≤ d * (N * 2 ^ k) := Nat.mul_le_mul_right _ hd1;rw [Nat.mul_comm d] at this;omega
       case rel => exact ⟨o + d, hm, hnw12, HS2.out, hB12, hq312⟩
   ·obtain rfl : j = 0 := (by omega);rw [show ((0 : Nat) : Int) - 1 = -1 from by omega];go_wp2_with fail
    refine (lZ _ _ (w3.heap.size + 1) _ _ _ HL.out (Nat.le_refl _) (by omega) (hbk.rd (Nat.lt_succ_self _))).mono ?_;rintro e w5 ⟨k5, hk5, rfl, hnz, hvq, rfl⟩;have hfin := HV.out;rw [List.drop_zero, List.drop_zero, HX.out] at hfin;obtain ⟨hq1, hq2, hq3⟩ := aDy hf0 hfin hR;have hRlen : dg B30 R ≤ LIM := by
     have h1 := aU aJ (Nat.le_of_lt hR);rw [← LY.out] at h1;rw [aC]; omega
    have hqv : Nr wr (.slice (some ⟨w3.heap.size, 0, none⟩) k5 xs.length) (M / N) := by
     refine Nn.of_blk hbk hk5 (by rw [HL.out] at hk5; exact hk5) hnz ho ?_;rw [hvq, hq1]
    have HQ2 := yW hq2; clear hq1 hq2 hq3 hfin;go_wp2_with fail
    refine (sG _ R k _ _ hr (by have := HK.out; omega) hRlen (by omega)).mono ?_;rintro e w6 ⟨vr, rfl, hvr, hq6, -⟩;go_wp2_with fail
    go_ret2
    exact ⟨_, _, rfl, hqv.q hq6, by rw [HQ2.out]; exact hvr, (hq.trans hq4).trans hq6⟩
theorem vI (x y : Value) (M N : Nat) (w : World) (hx : Nr w x M) (hy : Nr w y N) (hN : 0 < N) (lM : 31 * dg B30 M + 80 ≤ LIM) (lN : 31 * dg B30 N + 80 ≤ LIM) :
  Calls Tryz.prog 98 #[x, y] w fun e w' => ∃ v, e = .returned v ∧ Nr w' v (Nat.gcd M N) ∧ Q w w' := by
 have HG0 := yW (oW M N);have hR : M % N < N := Nat.mod_lt _ hN;go_enter Tryz.func98, Tryz.ntmps98
 go_wp2_with fail
 refine (qL _ _ M N _ hx hy hN (by omega) (by omega)).mono ?_;rintro e w1 ⟨vq, vr, rfl, hq, hr, hq1⟩;have hy1 := hy.q hq1;have lR : 31 * dg B30 (M % N) + 80 ≤ LIM := by have := aU aJ (Nat.le_of_lt hR); omega
 have HE := yW (rfl : M % N = M % N);clear hq hx;generalize M % N = R at *
 obtain ⟨A, c, rs, rfl, hc, rr, wr1, hvr⟩ := hr;have lr := wr1.len aJ;rw [hvr] at lr;have HR := yW hvr; clear hvr;rcases Nat.eq_zero_or_pos R with h0 | h0
 ·subst h0;rw [aT] at lr;have e0 : ((rs.length : Int) == 0) = true := (by simp [lr]);clear lr;go_wp2_with fail
  go_ret
  rw [← HG0.out, Nat.gcd_zero_left];exact ⟨_, rfl, hy1, hq1⟩
 ·have e0 : ((rs.length : Int) == 0) = false := by
   have : dg B30 R ≠ 0 := fun h => (by have := bI aJ h; omega);exact beq_eq_false_iff_ne.2 (by omega)
  have hrn : Nr w1 (.slice A rs.length c) R := ⟨A, c, rs, rfl, hc, rr, wr1, HR.out⟩
  clear rr wr1 lr;go_wp2_with fail
  refine (wM _ R _ hrn (by omega) h0).mono ?_;rintro e w2 ⟨rfl, rfl⟩;go_wp2_with fail
  refine (wM _ N _ hy1 (by omega) hN).mono ?_;rintro e w2 ⟨rfl, rfl⟩;have hGP := kV h0 hN;rw [HG0.out] at hGP;have HGP := yW hGP; clear hGP HG0 HE;have oR := (gH h0).2;have oN := (gH hN).2;have tR : tz R ≤ 30 * dg B30 R := Nat.le_trans (Nat.le_of_lt (iC h0)) (jE 30 R (by decide));have tN : tz N ≤ 30 * dg B30 N := Nat.le_trans (Nat.le_of_lt (iC hN)) (jE 30 N (by decide));have lim := aC;have dR := aU aJ (Nat.div_le_self R (2 ^ tz R));have dN := aU aJ (Nat.div_le_self N (2 ^ tz N));have LM := yW lim; clear lim;have tR2 : tz R ≤ 4611686018427387904 := (by have := LM.out; omega);have tN2 : tz N ≤ 4611686018427387904 := (by have := LM.out; omega);go_wp2_with fail
  refine (sG _ R (tz R) _ _ hrn rfl (by omega) tR2).mono ?_;rintro e w2 ⟨va, rfl, ha, hq2, -⟩;go_wp2_with fail
  refine (sG _ N (tz N) _ _ (hy1.q hq2) rfl (by omega) tN2).mono ?_;rintro e w3 ⟨vb, rfl, hb, hq3, -⟩;have ha3 := ha.q hq3;have hq13 := (hq1.trans hq2).trans hq3;clear ha hq1 hq2 hq3 hrn hy1 hy;have hml : min (tz R) (tz N) ≤ tz N := Nat.min_le_right _ _;obtain ⟨L, hLe⟩ : ∃ L, L = max (dg B30 R) (dg B30 N) := ⟨_, rfl⟩
  have lL : 31 * L + 80 ≤ LIM := (by omega);have dR : dg B30 (R / 2 ^ tz R) ≤ L := (by omega);have dN : dg B30 (N / 2 ^ tz N) ≤ L := (by omega);have tmin : min (tz R) (tz N) ≤ 30 * L := (by omega);clear hLe lM lN lR hR e0;generalize R / 2 ^ tz R = a0 at *
  generalize N / 2 ^ tz N = b0 at *
  generalize tz R = ti at *
  generalize tz N = tk at *
  have HTM := yW tmin;clear tmin hml;go_wp2_with fail
  go_loopg [0, 1] (a0 + b0) (fun gk va vb w4 => ∃ a b, Nr w4 va a ∧ Nr w4 vb b ∧ a % 2 = 1 ∧ b % 2 = 1 ∧ Nat.gcd a b = Nat.gcd a0 b0 ∧ gk = a + b ∧ dg B30 a ≤ L ∧ dg B30 b ≤ L ∧ Q w3 w4)
  case atStart => exact ⟨a0, b0, ha3, hb, oR, oN, rfl, rfl, dR, dN, Q.refl _⟩
  case round =>
   obtain ⟨w4, rfl⟩ : ∃ w4 : World, w4 = wr := ⟨_, rfl⟩
   obtain ⟨a, b, hva, hvb, oa, ob, hgcd, hgk, la, lb, hq4⟩ := hrel;have HOA := yW oa;have HOB := yW ob;have HGC := yW hgcd;have HGK := yW hgk;clear oa ob hgcd hgk oR oN;obtain ⟨A4, c4, da, rfl, hc4, ra4, wa4, hv4⟩ := hva;obtain ⟨B4, d4, db, rfl, hd4, rb4, wb4, hw4⟩ := hvb;have lea := wa4.len aJ;have leb := wb4.len aJ;rw [hv4] at lea;rw [hw4] at leb;have hna : Nr w4 (.slice A4 da.length c4) a := ⟨A4, c4, da, rfl, hc4, ra4, wa4, hv4⟩
   have hnb : Nr w4 (.slice B4 db.length d4) b := ⟨B4, d4, db, rfl, hd4, rb4, wb4, hw4⟩
   have HLA := yW lea; have HLB := yW leb;have hcase : (da.length ≤ 2 ∧ db.length ≤ 2) ∨ 2 < da.length ∨ da.length ≤ 2 ∧ 2 < db.length := (by omega);clear lea leb hv4 hw4 ra4 rb4 wa4 wb4;rcases hcase with ⟨h2, h2b⟩ | h2 | ⟨h2, h2b⟩
   ·have bA : dg B30 a ≤ 2 := (by rw [← HLA.out]; exact h2);have bB : dg B30 b ≤ 2 := (by rw [← HLB.out]; exact h2b);go_wp2_with fail
    refine (aDg _ a _ hna bA).mono ?_;rintro e w5 ⟨rfl, rfl⟩;go_wp2_with fail
    refine (aDg _ b _ hnb bB).mono ?_;rintro e w5 ⟨rfl, rfl⟩;have p2 : B30 ^ 2 = 1152921504606846976 := (by decide);have ba : a < 1152921504606846976 := (by have := (aI aJ a 2).1 bA; rw [p2] at this; exact this);have bb : b < 1152921504606846976 := (by have := (aI aJ b 2).1 bB; rw [p2] at this; exact this);clear p2 bA bB;go_wp2_with fail
    obtain ⟨wo, rfl⟩ : ∃ wo : World, wo = w4 := ⟨_, rfl⟩
    go_loopw [8, 9] (fun xv yv w5 => ∃ p q : Nat, xv = .int .i64 (p : Int) ∧ yv = .int .i64 (q : Int) ∧ p < 1152921504606846976 ∧ q < 1152921504606846976 ∧ Nat.gcd p q = Nat.gcd a0 b0 ∧ ∃ m, w5 = wo.drewN m) (fun _ yv _ => (intOf yv).toNat)
    case atStart => exact ⟨a, b, rfl, rfl, ba, bb, HGC.out, 0, rfl⟩
    case round =>
     obtain ⟨p, q, rfl, rfl, hp, hq, hpq, m, rfl⟩ := hrel;have HPQ := yW hpq; clear hpq;rcases Nat.eq_zero_or_pos q with h0 | h0
     ·subst h0;have hpe : p = Nat.gcd a0 b0 := (by have := HPQ.out; rwa [Nat.gcd_zero_right] at this);have HP := yW hpe; clear hpe;go_wp2_with fail
      refine (wL _ p _ rfl (by omega)).mono ?_;rintro e w6 ⟨vs, rfl, hs, hq6, -⟩;have hqq : Q w3 w6 := (hq4.drewN m).trans hq6;have ldp : dg B30 p ≤ 2 := fT aJ (by rw [show B30 ^ 2 = 1152921504606846976 by decide]; exact hp);have lim1 : dg B30 p + min ti tk + 2 ≤ LIM := (by have := HTM.out; omega);rcases Nat.lt_trichotomy ti tk with ht | rfl | ht;all_goals
       go_wp2_with fail
       refine (kU _ p (min _ _) _ _ hs (by omega) lim1).mono ?_;rintro e w7 ⟨vf, rfl, hf, hq7, -⟩;go_wp2_with fail
       go_ret
       refine ⟨_, rfl, ?_, (hq13.trans hqq).trans hq7⟩;rw [HGP.out, ← HP.out, Nat.mul_comm];exact hf
     ·have hne : ((q : Int) != 0) = true := (by simp; omega);have hpm : p % q < q := Nat.mod_lt _ h0;have hgm : Nat.gcd q (p % q) = Nat.gcd a0 b0 := (by rw [Nat.gcd_comm, oW]; exact HPQ.out);have HGM := yW hgm; clear hgm;go_wp2_with fail
      go_quiet (fail)
      go_wp2_with fail
      exact ⟨⟨q, p % q, rfl, congrArg (Value.int _) (Int.natCast_emod _ _).symm, hq, by omega, HGM.out, _, by rw [World.drewN_drewN]⟩, by simp [intOf]; omega⟩
   all_goals
    have step : ∀ (p q : Nat) (vp vq2 : Value) (w5 : World), q < p → p % 2 = 1 → q % 2 = 1 → Nat.gcd p q = Nat.gcd a0 b0 → dg B30 p ≤ L → dg B30 q ≤ L → Nr w5 vp p → Nr w5 vq2 q →
        Nat.gcd ((p - q) / 2 ^ tz (p - q)) q = Nat.gcd a0 b0 ∧ ((p - q) / 2 ^ tz (p - q)) % 2 = 1 ∧ (p - q) / 2 ^ tz (p - q) < p ∧ dg B30 ((p - q) / 2 ^ tz (p - q)) ≤ L ∧ dg B30 (p - q) ≤ L ∧ tz (p - q) ≤ 4611686018427387904 := by
     intro p q vp vq2 w5 h1 h2 h3 h4 h5 h6 _ _;have hst := xL h2 h3 h1;have ldm := aU aJ (Nat.sub_le p q);have ldd := aU aJ (Nat.div_le_self (p - q) (2 ^ tz (p - q)));refine ⟨hst.1.trans h4, hst.2.1, hst.2.2, by omega, by omega, ?_⟩;have h7 := iC (show 0 < p - q by omega);have h8 := jE 30 (p - q) (by decide);change bl (p - q) ≤ 30 * dg B30 (p - q) at h8;have := LM.out;omega
    rcases Nat.lt_trichotomy a b with hab | hab | hab
    ·have HC := yW (gM hab);obtain ⟨s1, s2, s3, s4, s5, s6⟩ := step b a _ _ w4 hab HOB.out HOA.out (by rw [Nat.gcd_comm]; exact HGC.out) lb la hnb hna;have S1 := yW s1; have S2 := yW s2; clear s1 s2 step;go_wp2_with fail
     refine (fD _ _ a b _ hna hnb (by omega) (by omega)).mono ?_;rintro e w5 ⟨rfl, hq5⟩;rw [HC.out];go_wp2_with fail
     refine (kL _ _ b a _ (hnb.q hq5) (hna.q hq5) (by omega) (by omega)).mono ?_;rintro e w6 ⟨vm, rfl, hm, hq6, -⟩;go_wp2_with fail
     refine (wM _ (b - a) _ hm (by omega) (by omega)).mono ?_;rintro e w7 ⟨rfl, rfl⟩;go_wp2_with fail
     refine (sG _ (b - a) (tz (b - a)) _ _ hm rfl (by omega) s6).mono ?_;rintro e w8 ⟨vn, rfl, hn, hq8, -⟩;have hqq := (hq5.trans hq6).trans hq8;go_wp2_with fail
     go_roundg ((b - a) / 2 ^ tz (b - a) + a)
     case measure => have := HGK.out; omega
     case rel => exact ⟨_, a, hn, hna.q hqq, S2.out, HOA.out, S1.out, rfl, s4, la, hq4.trans hqq⟩
    ·subst hab;have HC := yW (cmp_eq a);have hg1 : a = Nat.gcd a0 b0 := (by have := HGC.out; rwa [Nat.gcd_self] at this);have HP := yW hg1;clear step hg1;have lim1 : dg B30 a + min ti tk + 2 ≤ LIM := (by have := HTM.out; omega);go_wp2_with fail
     refine (fD _ _ a a _ hna hnb (by omega) (by omega)).mono ?_;rintro e w5 ⟨rfl, hq5⟩;rw [HC.out];have hna5 := hna.q hq5;rcases Nat.lt_trichotomy ti tk with ht | rfl | ht;all_goals
      go_wp2_with fail
      refine (kU _ a (min _ _) _ _ hna5 (by omega) lim1).mono ?_;rintro e w7 ⟨vf, rfl, hf, hq7, -⟩;go_wp2_with fail
      go_ret
      refine ⟨_, rfl, ?_, (hq13.trans (hq4.trans hq5)).trans hq7⟩;rw [HGP.out, ← HP.out, Nat.mul_comm];exact hf
    ·have HC := yW (iI hab);obtain ⟨s1, s2, s3, s4, s5, s6⟩ := step a b _ _ w4 hab HOA.out HOB.out HGC.out la lb hna hnb;have S1 := yW s1; have S2 := yW s2; clear s1 s2 step;go_wp2_with fail
     refine (fD _ _ a b _ hna hnb (by omega) (by omega)).mono ?_;rintro e w5 ⟨rfl, hq5⟩;rw [HC.out];go_wp2_with fail
     refine (kL _ _ a b _ (hna.q hq5) (hnb.q hq5) (by omega) (by omega)).mono ?_;rintro e w6 ⟨vm, rfl, hm, hq6, -⟩;go_wp2_with fail
     refine (wM _ (a - b) _ hm (by omega) (by omega)).mono ?_;rintro e w7 ⟨rfl, rfl⟩;go_wp2_with fail
     refine (sG _ (a - b) (tz (a - b)) _ _ hm rfl (by omega) s6).mono ?_;rintro e w8 ⟨vn, rfl, hn, hq8, -⟩;have hqq := (hq5.trans hq6).trans hq8;go_wp2_with fail
     go_roundg ((a - b) / 2 ^ tz (a - b) + b)
     case measure => have := HGK.out; omega
     case rel => exact ⟨_, b, hn, hnb.q hqq, S2.out, HOB.out, S1.out, rfl, s4, lb, hq4.trans hqq⟩
end Go.Proofs.YtajbfablmpmgbaaGreatDoor
namespace Go.Proofs.YtajbfablmpmgbaaGreatDoor.K
open Go.RowKit
open Ma Me
theorem jK (x : Value) (N : Nat) (b : Bool) (w : World) (hx : Nr w x N) (hb : decide (N = 1) = b) : Calls Tryz.prog 97 #[x] w fun e w' => e = .returned (.bool b) ∧ w = w' := by
 subst hb;exact aI6 x N w hx
theorem aFd {s : Int} {M N : Nat} {q : Rat} (hq : q * (N : Rat) = (s : Rat) * (M : Rat)) (hN : s ≠ 0 → 0 < N) (h : s = 0 ∨ M = 0) (h0 : N = 0 → q = 0) : q = 0 := by
 rcases Nat.eq_zero_or_pos N with h1 | h1
 ·exact h0 h1
 have e : q * (N : Rat) = 0 := by
  rw [hq];rcases h with rfl | rfl
  ·exact Rat.zero_mul _
  ·exact Rat.mul_zero _
 rcases Rat.mul_eq_zero.1 e with h | h
 ·exact h
 ·have : ((N : Int) : Rat) = ((0 : Int) : Rat) := h;have := Rat.intCast_inj.1 this;omega
theorem aD2 {s : Int} {M N : Nat} {q : Rat} (hs : s = -1 ∨ s = 1) (hM : 0 < M) (hN : 0 < N) (hq : q * (N : Rat) = (s : Rat) * (M : Rat)) :
  s = sn q ∧ q.num.natAbs = M / Nat.gcd M N ∧ q.den = N / Nat.gcd M N := by
 obtain ⟨d, hd⟩ : ∃ d, d = Nat.gcd M N := ⟨_, rfl⟩
 have hd0 : 0 < d := by rw [hd]; exact Nat.gcd_pos_of_pos_right _ hN
 obtain ⟨m, hm⟩ : d ∣ M := by rw [hd]; exact Nat.gcd_dvd_left _ _
 obtain ⟨n, hn⟩ : d ∣ N := by rw [hd]; exact Nat.gcd_dvd_right _ _
 have hm1 : M / d = m := by rw [hm]; exact Nat.mul_div_cancel_left _ hd0
 have hn1 : N / d = n := by rw [hn]; exact Nat.mul_div_cancel_left _ hd0
 have hc : Nat.Coprime m n := by
  have := Nat.coprime_div_gcd_div_gcd (m := M) (n := N) (by rw [← hd]; exact hd0)
  rwa [← hd, hm1, hn1] at this
 have hn0 : 0 < n := by
  rcases Nat.eq_zero_or_pos n with h | h
  ·rw [h] at hn; omega
  ·exact h
 have hm0 : 0 < m := by
  rcases Nat.eq_zero_or_pos m with h | h
  ·rw [h] at hm; omega
  ·exact h
 have key : (s * (m : Int)) * q.den = q.num * n := by
  have h1 : q * (N : Rat) = (s : Rat) * (M : Rat) := hq;have h3 : q * (q.den : Rat) = (q.num : Rat) := (mJ q).symm;have h4 : (q.num : Rat) * (N : Rat) = (s : Rat) * (M : Rat) * (q.den : Rat) := by
   rw [← h3, ← h1]; grind
  have h5 : ((q.num * (N : Int) : Int) : Rat) = ((s * (M : Int) * (q.den : Int) : Int) : Rat) := by
   rw [Rat.intCast_mul, Rat.intCast_mul, Rat.intCast_mul]; exact h4
  have h6 := Rat.intCast_inj.1 h5;rw [hm, hn] at h6;have h7 : (d : Int) * (q.num * n) = (d : Int) * ((s * (m : Int)) * q.den) := by
   simp only [Int.natCast_mul] at h6;rw [show (d : Int) * (q.num * n) = q.num * ((d : Int) * n) from by grind, h6]; grind
  exact (Int.eq_of_mul_eq_mul_left (by omega) h7).symm
 have hnat : (s * (m : Int)).natAbs = m := by rcases hs with rfl | rfl <;> simp
 obtain ⟨h1, h2⟩ := yL (q := q) (a := s * (m : Int)) (b := n) hn0 (by rw [hnat]; exact hc) key;rw [← hd, hm1, hn1];refine ⟨?_, by rw [h1, hnat], h2⟩;rw [oZ, h1];rcases hs with rfl | rfl
 ·rw [Int.sign_eq_neg_one_of_neg]; omega
 ·rw [Int.sign_eq_one_of_pos]; omega
theorem mW {w a : World} {g : Nat} {row : List Value} {A1 A2 : Option Addr} {n1 c1 n2 c2 M N : Nat} {s : Int} {q : Rat} (hR : Bx w g 33 row) (hl : row.length = 3) (hrow : ∀ x ∈ row, ∀ z, x ≠ .int .u64 z) (hx : Nr w (.slice A1 n1 c1) M) (hy : Nr w (.slice A2 n2 c2) N) (hs : s = sn q) (hM : q.num.natAbs = M) (hN : q.den = N) (hQ : Q a w) (hg : a.heap.size ≤ g) : Bx (((w.setCell ⟨g, 0, none⟩ (.int .i64 s)).setCell ⟨g, 1, none⟩ (.slice A1 n1 c1)).setCell ⟨g, 2, none⟩ (.slice A2 n2 c2)) g 33 [.int .i64 s, .slice A1 n1 c1, .slice A2 n2 c2] ∧ Rq (((w.setCell ⟨g, 0, none⟩ (.int .i64 s)).setCell ⟨g, 1, none⟩ (.slice A1 n1 c1)).setCell ⟨g, 2, none⟩ (.slice A2 n2 c2)) (.agg #[.int .i64 s, .slice A1 n1 c1, .slice A2 n2 c2]) q ∧
  Q a (((w.setCell ⟨g, 0, none⟩ (.int .i64 s)).setCell ⟨g, 1, none⟩ (.slice A1 n1 c1)).setCell ⟨g, 2, none⟩ (.slice A2 n2 c2)) := by
 have h1 : Bx (gF w g 0 [.int .i64 s, .slice A1 n1 c1, .slice A2 n2 c2]) g 33 _ := hR.put hl;have h2 : Rq w (.agg #[.int .i64 s, .slice A1 n1 c1, .slice A2 n2 c2]) q := ⟨_, _, _, _, _, _, by rw [hs], by rw [hM]; exact hx, fun _ => by rw [hN]; exact hy⟩
 exact ⟨h1, h2.ap ⟨fun k hk => jD (l := [.int .i64 s, .slice A1 n1 c1, .slice A2 n2 c2]) hk, jW (l := [.int .i64 s, .slice A1 n1 c1, .slice A2 n2 c2]), _, _, hR, by decide, hrow, fun _ => Nat.le_of_eq hl⟩, lX (l := [.int .i64 s, .slice A1 n1 c1, .slice A2 n2 c2]) hQ hg⟩
theorem iX : ∀ x ∈ ([.int .i64 0, .slice none 0 0, .slice none 0 0] : List Value), ∀ z, x ≠ .int .u64 z := by
 intro x hx z;simp at hx;rcases hx with rfl | rfl | rfl <;> simp
theorem eG (s : Int) (x y : Value) (M N : Nat) (q : Rat) (w : World) (hx : Nr w x M) (hy : Nr w y N) (hN : s ≠ 0 → 0 < N) (hs : s = -1 ∨ s = 0 ∨ s = 1) (hq : q * (N : Rat) = (s : Rat) * (M : Rat)) (h0 : N = 0 → q = 0) (lM : 31 * dg B30 M + 80 ≤ LIM) (lN : 31 * dg B30 N + 80 ≤ LIM) :
  Calls Tryz.prog 94 #[.int .i64 s, x, y] w fun e w' => ∃ r, e = .returned r ∧ Rq w' r q ∧ Q w w' := by
 obtain ⟨W, hW, hG0, hR0⟩ := tT w 33 [.int .i64 0, .slice none 0 0, .slice none 0 0];have hG0' : w.heap.size < W.heap.size := hR0.lt;by_cases hz : s = 0 ∨ M = 0
 ·obtain rfl := aFd hq hN hz h0;clear hq h0 hN lM lN hs;have fz := hR0.frozen;have r0 := hR0.cell 0 rfl;have r1 := hR0.cell 1 rfl;have r2 := hR0.cell 2 rfl;have hb9 := hR0.put (l := [.int .i64 0, .slice none 0 0, .slice none 0 0]) rfl;have hq9 := lX (g := w.heap.size) (i := 0) (l := [.int .i64 0, .slice none 0 0, .slice none 0 0]) hG0 (Nat.le_refl _);simp only [gF, Nat.reduceAdd] at hb9 hq9;have z0 := hb9.cell 0 rfl;have z1 := hb9.cell 1 rfl;have z2 := hb9.cell 2 rfl;clear hb9 hR0;by_cases hs0 : s = 0
  ·subst hs0;clear hz;go_enter Tryz.func94, Tryz.ntmps94
   go_wp2_with fail
   refine rz3 z0 z1 z2 ?_;exact ⟨_, rfl, Rq.none _, hq9⟩
  ·have hM : M = 0 := (by omega);subst hM;have hsb : (s == 0) = false := (by simp [hs0]);obtain ⟨A, c, xs, rfl, hc, rx, wx, hv⟩ := hx;have hl := wx.len aJ;rw [hv, aT] at hl;have hx0 : xs = [] := List.eq_nil_of_length_eq_zero hl;subst hx0;clear hz hs0 rx wx hv hl;go_enter Tryz.func94, Tryz.ntmps94
   go_wp2_with fail
   refine rz3 z0 z1 z2 ?_;exact ⟨_, rfl, Rq.none _, hq9⟩
 ·have hM : 0 < M := (by omega);have hs2 : s = -1 ∨ s = 1 := (by omega);have hN2 : 0 < N := hN (by omega);obtain ⟨hp1, hp2, hp3⟩ := aD2 hs2 hM hN2 hq;have hsb : (s == 0) = false := by
   rcases hs2 with rfl | rfl <;> rfl
  have HP1 := yW hp1;have HP2 := yW hp2;have HP3 := yW hp3;have HM := yW hM;have HN := yW hN2;have LM := yW lM;have LN := yW lN;have hxl : ∃ A n c, x = .slice A n c ∧ 0 < n := by
   obtain ⟨A, c, xs, rfl, hc, rx, wx, hv⟩ := hx;refine ⟨A, _, c, rfl, ?_⟩;have hl := wx.len aJ;rcases Nat.eq_zero_or_pos xs.length with h | h
   ·rw [List.eq_nil_of_length_eq_zero h] at hv;simp [vl] at hv;omega
   ·exact h
  obtain ⟨A1, n1, c1, rfl, hn1⟩ := hxl;obtain ⟨A2, n2, c2, rfl⟩ := Nr.form hy;have hlb : ((n1 : Int) == 0) = false := (by simp; omega);clear hp1 hp2 hp3 hq h0 hN hs hz hM hs2 hN2 lM lN hn1;by_cases h1 : M = 1
  ·have d1 : decide (M = 1) = true := decide_eq_true h1;have e1 : Nat.gcd M N = 1 := (by rw [h1]; exact Nat.gcd_one_left _);have HE := yW e1;clear h1 e1;go_enter Tryz.func94, Tryz.ntmps94
   go_wp2_with fail
   refine (jK _ M true _ (hx.q hG0) d1).mono ?_;rintro e w1 ⟨rfl, rfl⟩;have fz := hR0.frozen;have r0 := hR0.cell 0 rfl;have r1 := hR0.cell 1 rfl;have r2 := hR0.cell 2 rfl;go_wp2_with fail
   obtain ⟨hb9, hv9, hq9⟩ := mW hR0 rfl iX (hx.q hG0) (hy.q hG0) HP1.out (by rw [HP2.out, HE.out, Nat.div_one]) (by rw [HP3.out, HE.out, Nat.div_one]) hG0 (Nat.le_refl _);have z0 := hb9.cell 0 rfl;have z1 := hb9.cell 1 rfl;have z2 := hb9.cell 2 rfl;refine rz3 z0 z1 z2 ?_;exact ⟨_, rfl, hv9, hq9⟩
  by_cases h2 : N = 1
  ·have d1 : decide (M = 1) = false := decide_eq_false h1;have d2 : decide (N = 1) = true := decide_eq_true h2;have e1 : Nat.gcd M N = 1 := (by rw [h2]; exact Nat.gcd_one_right _);have HE := yW e1;clear h1 h2 e1;go_enter Tryz.func94, Tryz.ntmps94
   go_wp2_with fail
   refine (jK _ M false _ (hx.q hG0) d1).mono ?_;rintro e w1 ⟨rfl, rfl⟩;go_wp2_with fail
   refine (jK _ N true _ (hy.q hG0) d2).mono ?_;rintro e w1 ⟨rfl, rfl⟩;have fz := hR0.frozen;have r0 := hR0.cell 0 rfl;have r1 := hR0.cell 1 rfl;have r2 := hR0.cell 2 rfl;go_wp2_with fail
   obtain ⟨hb9, hv9, hq9⟩ := mW hR0 rfl iX (hx.q hG0) (hy.q hG0) HP1.out (by rw [HP2.out, HE.out, Nat.div_one]) (by rw [HP3.out, HE.out, Nat.div_one]) hG0 (Nat.le_refl _);have z0 := hb9.cell 0 rfl;have z1 := hb9.cell 1 rfl;have z2 := hb9.cell 2 rfl;refine rz3 z0 z1 z2 ?_;exact ⟨_, rfl, hv9, hq9⟩
  have d1 : decide (M = 1) = false := decide_eq_false h1;have d2 : decide (N = 1) = false := decide_eq_false h2;clear h1 h2;obtain ⟨d, hd⟩ : ∃ d, Nat.gcd M N = d := ⟨_, rfl⟩
  have hd0 : 0 < d := (by rw [← hd]; exact Nat.gcd_pos_of_pos_right _ HN.out);have hdN : d ≤ N := (by rw [← hd]; exact Nat.gcd_le_right _ HN.out);have HD := yW hd;have HD0 := yW hd0;have LD : Hid (dg B30 d + 40 ≤ LIM) := yW (by have := aU aJ hdN; have := LN.out; omega);clear hd hd0 hdN;go_enter Tryz.func94, Tryz.ntmps94
  go_wp2_with fail
  refine (jK _ M false _ (hx.q hG0) d1).mono ?_;rintro e w1 ⟨rfl, rfl⟩;go_wp2_with fail
  refine (jK _ N false _ (hy.q hG0) d2).mono ?_;rintro e w1 ⟨rfl, rfl⟩;go_wp2_with fail
  refine (vI _ _ M N _ (hx.q hG0) (hy.q hG0) HN.out LM.out LN.out).mono ?_;rintro e w1 ⟨vd, rfl, hvd, hq1⟩;rw [HD.out] at hvd;have hG1 := hG0.trans hq1;have hR1 := hR0.q hq1;clear hR0 hG0 hW hq1;by_cases h3 : d = 1
  ·have d3 : decide (d = 1) = true := decide_eq_true h3;have HE : Hid (Nat.gcd M N = 1) := yW (by rw [HD.out]; exact h3);clear h3;go_wp2_with fail
   refine (jK _ d true _ hvd d3).mono ?_;rintro e w2 ⟨rfl, rfl⟩;have fz := hR1.frozen;have r0 := hR1.cell 0 rfl;have r1 := hR1.cell 1 rfl;have r2 := hR1.cell 2 rfl;go_wp2_with fail
   obtain ⟨hb9, hv9, hq9⟩ := mW hR1 rfl iX (hx.q hG1) (hy.q hG1) HP1.out (by rw [HP2.out, HE.out, Nat.div_one]) (by rw [HP3.out, HE.out, Nat.div_one]) hG1 (Nat.le_refl _);have z0 := hb9.cell 0 rfl;have z1 := hb9.cell 1 rfl;have z2 := hb9.cell 2 rfl;refine rz3 z0 z1 z2 ?_;exact ⟨_, rfl, hv9, hq9⟩
  ·have d3 : decide (d = 1) = false := decide_eq_false h3;clear h3;go_wp2_with fail
   refine (jK _ d false _ hvd d3).mono ?_;rintro e w2 ⟨rfl, rfl⟩;go_wp2_with fail
   refine (qL _ _ M d _ (hx.q hG1) hvd HD0.out (by have := LM.out; omega) LD.out).mono ?_;rintro e w2 ⟨u1, u2, rfl, hu1, -, hq2⟩;have hG2 := hG1.trans hq2;have hR2 := hR1.q hq2;have hvd2 := hvd.q hq2;clear hR1 hvd;go_wp2_with fail
   refine (qL _ _ N d _ (hy.q hG2) hvd2 HD0.out (by have := LN.out; omega) LD.out).mono ?_;rintro e w3 ⟨v1, v2, rfl, hv1, -, hq3⟩;have hG3 := hG2.trans hq3;have hR3 := hR2.q hq3;have hu3 := hu1.q hq3;obtain ⟨B1, m1, e1, rfl⟩ := Nr.form hu3;obtain ⟨B2, m2, e2, rfl⟩ := Nr.form hv1;clear hR2 hvd2 hu1 hq2 hq3 hG1 hG2;have fz := hR3.frozen;have r0 := hR3.cell 0 rfl;have r1 := hR3.cell 1 rfl;have r2 := hR3.cell 2 rfl;go_wp2_with fail
   obtain ⟨hb9, hv9, hq9⟩ := mW hR3 rfl iX hu3 hv1 HP1.out (by rw [HP2.out, HD.out]) (by rw [HP3.out, HD.out]) hG3 (Nat.le_refl _);have z0 := hb9.cell 0 rfl;have z1 := hb9.cell 1 rfl;have z2 := hb9.cell 2 rfl;refine rz3 z0 z1 z2 ?_;exact ⟨_, rfl, hv9, hq9⟩
theorem mD (x : Value) (N : Nat) (b : Bool) (w : World) (hx : Nr w x N) (hb : decide (N = 1) = b) : Calls Tryz.prog 97 #[x] w fun e w' => e = .returned (.bool b) ∧ Q w w' := by
 refine (jK x N b w hx hb).mono ?_;rintro e w' ⟨h, rfl⟩;exact ⟨h, Q.refl _⟩
theorem aIG (N : Nat) : dg B30 N ≤ 3 * dg W64 N := by
 rw [aI aJ, Nat.pow_mul];have h := (aI aD N (dg W64 N)).1 (Nat.le_refl _);exact Nat.lt_of_lt_of_le h (Nat.pow_le_pow_left (by decide) _)
theorem aI7 (q : Rat) : dg B30 q.num.natAbs ≤ 3 * sz q := Nat.le_trans (aIG _) (Nat.mul_le_mul_left 3 (gP q))
theorem aI8 (q : Rat) : dg B30 q.den ≤ 3 * sz q := Nat.le_trans (aIG _) (Nat.mul_le_mul_left 3 (fZ q))
theorem aI9 : dg B30 1 ≤ 1 := by rw [dF aJ]; exact Nat.le_refl _
theorem aJa (M N : Nat) : dg B30 (M * N) ≤ dg B30 M + dg B30 N := cO aJ M N
theorem aJb (M N : Nat) : dg B30 (M + N) ≤ dg B30 M + dg B30 N + 1 := by
 have := jS aJ M N;omega
theorem aJc (M N : Nat) : dg B30 (M - N) ≤ dg B30 M := aU aJ (Nat.sub_le _ _)
theorem wN {z : Int} (h : -1 ≤ z ∧ z ≤ 1) : IntKind.i64.wrap z = z := by
 unfold IntKind.wrap;obtain ⟨h1, h2⟩ := h;have : z = -1 ∨ z = 0 ∨ z = 1 := by omega
 rcases this with rfl | rfl | rfl <;> rfl
theorem aD3 (q : Rat) : -1 ≤ sn q ∧ sn q ≤ 1 := by rcases bP q with ⟨_, h⟩ | ⟨_, h⟩ | ⟨_, h⟩ <;> rw [h] <;> decide
theorem sn3 (q : Rat) : sn q = -1 ∨ sn q = 0 ∨ sn q = 1 := by rcases bP q with ⟨_, h⟩ | ⟨_, h⟩ | ⟨_, h⟩ <;> simp [h]
theorem sn_neg' (q : Rat) : sn (-q) = -sn q := by rw [oZ, oZ, Rat.neg_num, Int.sign_neg]
theorem sH (p q : Rat) : -1 ≤ sn p * sn q ∧ sn p * sn q ≤ 1 := by rw [← yN]; exact aD3 _
theorem aIH (q : Rat) : (q.num : Int) = sn q * (q.num.natAbs : Int) := by
 rw [oZ]; exact (Int.sign_mul_natAbs _).symm
theorem qZ (q : Rat) : q * ((q.den : Nat) : Rat) = ((sn q : Int) : Rat) * ((q.num.natAbs : Nat) : Rat) := by
 rw [← mJ];have h := aIH q;have h2 : ((q.num : Int) : Rat) = ((sn q * (q.num.natAbs : Int) : Int) : Rat) := by rw [← h]
 rw [h2, Rat.intCast_mul]; rfl
theorem iY (a b : Nat) : ((a * b : Nat) : Rat) = (a : Rat) * (b : Rat) := Rat.natCast_mul a b
theorem aFe (a b : Nat) : ((a + b : Nat) : Rat) = (a : Rat) + (b : Rat) := Rat.natCast_add a b
theorem aGA (p q : Rat) : (p * q) * ((p.den * q.den : Nat) : Rat) = ((sn p * sn q : Int) : Rat) * ((p.num.natAbs * q.num.natAbs : Nat) : Rat) := by
 have h1 := qZ p;have h2 := qZ q;rw [iY, iY, Rat.intCast_mul];grind
theorem den_nz (q : Rat) : 0 < q.den := q.den_pos
theorem mK {q : Rat} (h : q ≠ 0) : 0 < q.num.natAbs := by
 have : q.num ≠ 0 := fun e => h (Rat.num_eq_zero.1 e);omega
theorem vJ {q : Rat} (h : q ≠ 0) : sn q⁻¹ = sn q ∧ q.den = (q⁻¹).num.natAbs ∧ q.num.natAbs = (q⁻¹).den := by
 have h1 : q.num ≠ 0 := fun e => h (Rat.num_eq_zero.1 e);refine ⟨?_, ?_, ?_⟩
 ·rw [oZ, oZ, Rat.num_inv, Int.sign_mul, Int.sign_sign];have h2 : Int.sign ((q.den : Nat) : Int) = 1 := Int.sign_eq_one_of_pos (by have := q.den_pos; omega);rw [h2, Int.mul_one]
 ·rw [Rat.num_inv, Int.natAbs_mul, Int.natAbs_sign, if_neg h1, Nat.one_mul, Int.natAbs_natCast]
 ·rw [Rat.den_inv, if_neg h1]
theorem nQ (q : Rat) : -sn q = sn (-q) ∧ q.num.natAbs = (-q).num.natAbs ∧ q.den = (-q).den := ⟨(sn_neg' q).symm, by rw [Rat.neg_num, Int.natAbs_neg], by rw [Rat.neg_den]⟩
theorem vK {p q : Rat} (h : sn p = sn q) : (p + q) * ((p.den * q.den : Nat) : Rat) = ((sn p : Int) : Rat) * ((p.num.natAbs * q.den + q.num.natAbs * p.den : Nat) : Rat) := by
 have h1 := qZ p;have h2 := qZ q;rw [← h] at h2;rw [aFe, iY, iY, iY];grind
theorem aCf {p q : Rat} (hp : p ≠ 0) (hq : q ≠ 0) (h : ¬ sn p = sn q) : sn q = -sn p := by
 have h1 : sn p ≠ 0 := fun e => hp (aM.1 e);have h2 : sn q ≠ 0 := fun e => hq (aM.1 e);have := sn3 p;have := sn3 q;omega
theorem aFf {a b : Nat} (h : b ≤ a) : ((a - b : Nat) : Rat) = (a : Rat) - (b : Rat) := by
 have e : a - b + b = a := Nat.sub_add_cancel h;have h2 := aFe (a - b) b;rw [e] at h2;rw [h2]; grind
theorem vM {p q : Rat} (h : sn q = -sn p) (hl : p.num.natAbs * q.den ≤ q.num.natAbs * p.den) : (p + q) * ((p.den * q.den : Nat) : Rat) = ((sn q : Int) : Rat) * ((q.num.natAbs * p.den - p.num.natAbs * q.den : Nat) : Rat) := by
 have h1 := qZ p;have h2 := qZ q;have e : sn p = -sn q := by omega
 have e2 : ((sn p : Int) : Rat) = -((sn q : Int) : Rat) := by rw [e, Rat.intCast_neg]
 rw [e2] at h1;rw [aFf hl, iY, iY, iY];grind
theorem vN {p q : Rat} (h : sn q = -sn p) (hl : q.num.natAbs * p.den ≤ p.num.natAbs * q.den) : (p + q) * ((p.den * q.den : Nat) : Rat) = ((sn p : Int) : Rat) * ((p.num.natAbs * q.den - q.num.natAbs * p.den : Nat) : Rat) := by
 have h1 := qZ p;have h2 := qZ q;have e2 : ((sn q : Int) : Rat) = -((sn p : Int) : Rat) := by rw [h, Rat.intCast_neg]
 rw [e2] at h2;rw [aFf hl, iY, iY, iY];grind
theorem aD4 {p q : Rat} (h1 : p.den = 1) (h2 : q.den = 1) (h : sn p = sn q) : (p + q) * ((p.den : Nat) : Rat) = ((sn p : Int) : Rat) * ((p.num.natAbs + q.num.natAbs : Nat) : Rat) := by
 have := vK h;rw [h2, h1, Nat.mul_one, Nat.mul_one, Nat.mul_one] at this;rw [h1]; exact this
theorem aD5 {p q : Rat} (h1 : p.den = 1) (h2 : q.den = 1) (h : sn q = -sn p) (hl : p.num.natAbs ≤ q.num.natAbs) : (p + q) * ((p.den : Nat) : Rat) = ((sn q : Int) : Rat) * ((q.num.natAbs - p.num.natAbs : Nat) : Rat) := by
 have := vM h (by rw [h1, h2, Nat.mul_one, Nat.mul_one]; exact hl);rw [h2, h1, Nat.mul_one, Nat.mul_one, Nat.mul_one] at this;rw [h1]; exact this
theorem aD6 {p q : Rat} (h1 : p.den = 1) (h2 : q.den = 1) (h : sn q = -sn p) (hl : q.num.natAbs ≤ p.num.natAbs) : (p + q) * ((p.den : Nat) : Rat) = ((sn p : Int) : Rat) * ((p.num.natAbs - q.num.natAbs : Nat) : Rat) := by
 have := vN h (by rw [h1, h2, Nat.mul_one, Nat.mul_one]; exact hl);rw [h2, h1, Nat.mul_one, Nat.mul_one, Nat.mul_one] at this;rw [h1]; exact this
theorem lQ {M N : Nat} : cmp M N < 0 ↔ M < N := by
 rcases Nat.lt_trichotomy M N with h | h | h
 ·have := gM h; omega
 ·subst h; have := cmp_eq M; omega
 ·have := iI h; omega
def nV (q : Rat) : Rat := if q < 0 then -q else q
theorem lK (q : Rat) : sn q * sn q = sn (nV q) ∧ q.num.natAbs = (nV q).num.natAbs ∧ q.den = (nV q).den := by
 unfold nV;rcases bP q with ⟨h, e⟩ | ⟨h, e⟩ | ⟨h, e⟩
 ·rw [if_pos h];refine ⟨by rw [sn_neg', e]; rfl, (nQ q).2.1, (nQ q).2.2⟩
 ·subst h; exact ⟨rfl, rfl, rfl⟩
 ·rw [if_neg (by grind)];exact ⟨by rw [e]; rfl, rfl, rfl⟩
theorem aCb (q : Rat) : sz (nV q) ≤ sz q := by
 unfold nV; split
 ·rw [fA]; exact Nat.le_refl _
 ·exact Nat.le_refl _
def ofK (l : List UInt8) : ByteArray := ⟨l.toArray⟩
theorem xZ {t : ByteArray} {l : List UInt8} (h : t.data.toList = l) : t = ofK l := by
 unfold ofK;rw [← h]
theorem pW (l : List UInt8) : (ofK l).data.toList = l := rfl
theorem aDh : sz (1 / 2 : Rat) ≤ 4 := by
 have h1 : (1 / 2 : Rat).num.natAbs = 1 := by decide +kernel
 have h2 : (1 / 2 : Rat).den = 2 := by decide +kernel
 rw [← aN, h1, h2, dF aD];have := (aI aD 2 1).2 (by decide);omega
theorem aII (t b : Value) (w : World) (ht : Nm w t 1) (hb : Nm w b 2) : Calls Tryz.prog 77 #[.bool false, t, b] w fun e w' => ∃ r, e = .returned r ∧ Nq w' r (1 / 2) ∧ Q w w' := by
 refine (bU false t b 1 2 w ht hb).mono ?_;rintro e w' ⟨v, h1, h2, h3⟩;exact ⟨v, h1, Nq.of (s := false) (N := 1) (D := 2) h2 (by simp) (by decide +kernel) (by decide +kernel), h3⟩
theorem dC (a : Value) (p q : Rat) (w : World) (ha : Ns w a p q) (hB : 64 * (sz p + sz q) + 400 ≤ LIM) :
  Calls Tryz.prog 51 #[a] w fun e w' => ∃ r, e = .returned r ∧ Ns w' r (aB p q) (aA p q) ∧ Q w w' := by
 obtain ⟨a0, a1, a2, a3, a4, a5, rfl, jA⟩ := fmS ha;obtain ⟨w0, hW, hG0, hA0, hT0⟩ := cK w 30 [a0, a1, a2, a3, a4, a5] 30 [.bool false, .slice none 0 0, .slice none 0 0, .bool false, .slice none 0 0, .slice none 0 0];have HB := yW hB; clear hB;have gs0 := yW (sbS hA0 jA ha (sbZ shS hT0 (St.nil hG0)));clear hG0 hA0 hT0;go_enter Tryz.func51, Tryz.ntmps51
 go_upto_region 1 with fail
 clear hW;generalize w.heap.size = zz at *
 by_cases hC : p ≤ q
 ·have HC := yW hC; clear hC;refine reg [eP zz 0, gN p, eP zz 3, gN q, eI (rc p q), eB false] [] [] [] gs0 (fun Z => ?_) fun v1 w1 X gs1 => ?_
  ·refine JC.p Z $ JW.pt 0 0 Z $ JC.p Z $ JW.pt 0 3 Z $ JW.ca (fun Y => (iQ _ _ _ _ _ (Y.d 1) (Y.d 3) (ha1 HB (by omega))).mono mo0) Z $ JC.u (.bool (decide ((0) < (rc p q)))) (congrArg Value.bool (decide_eq_false (show ¬ ((rc p q : Int) > 0) from by have h9 := (eU p q).2 HC.out; omega))) Z $ Ja.Steps.nil
  rw [X.out.e 5 rfl rfl];clear X gs0;go_upto_region 3 with fail
  refine reg [gS p q, .any] [.k, .s 1 0] [] [] gs1 (fun Z => ?_) fun v2 w2 X gs2 => ?_
  ·refine JW.ld 0 Z $ JC.s6 (n := 1) rfl aL Z $ Ja.Steps.nil
  clear X gs1;go_wp2_with fail
  exact eQ 1 gs2 (hR := fun h hq => by exact ⟨_, rfl, by rw [kH HC.out, kI HC.out]; exact h, hq⟩)
 ·have HC := yW hC; clear hC;refine reg [eP zz 0, gN p, eP zz 3, gN q, eI (rc p q), eB true] [] [] [] gs0 (fun Z => ?_) fun v1 w1 X gs1 => ?_
  ·refine JC.p Z $ JW.pt 0 0 Z $ JC.p Z $ JW.pt 0 3 Z $ JW.ca (fun Y => (iQ _ _ _ _ _ (Y.d 1) (Y.d 3) (ha1 HB (by omega))).mono mo0) Z $ JC.u (.bool (decide ((0) < (rc p q)))) (congrArg Value.bool (decide_eq_true (show ((rc p q : Int) > 0) from by have h9 := mt (eU p q).1 HC.out; omega))) Z $ Ja.Steps.nil
  rw [X.out.e 5 rfl rfl];clear X gs0;go_upto_region 2 with fail
  refine reg [eP zz 3, gN q, eP zz 0, gN p, gS q p, .any] [.k, .s 5 4] [] [] gs1 (fun Z => ?_) fun v2 w2 X gs2 => ?_
  ·refine JC.p Z $ JW.pt 0 3 Z $ JC.p Z $ JW.pt 0 0 Z $ JC.bs 1 3 Z $ JC.s6 (n := 1) rfl aL Z $ Ja.Steps.nil
  clear X gs1;go_wp2_with fail
  exact eQ 1 gs2 (hR := fun h hq => by exact ⟨_, rfl, by rw [show aB p q = q from if_neg HC.out, show aA p q = p from by have h9 := HC.out; unfold aA; split <;> grind]; exact h, hq⟩)
theorem rA (a : Value) (p q : Rat) (w : World) (ha : Ns w a p q)  :
  Calls Tryz.prog 68 #[a] w fun e w' => ∃ r, e = .returned r ∧ Ns w' r (-q) (-p) ∧ Q w w' := by
 obtain ⟨a0, a1, a2, a3, a4, a5, rfl, jA⟩ := fmS ha;obtain ⟨w0, hW, hG0, hA0, hT0⟩ := cK w 30 [a0, a1, a2, a3, a4, a5] 30 [.bool false, .slice none 0 0, .slice none 0 0, .bool false, .slice none 0 0, .slice none 0 0];have gs0 := yW (sbS hA0 jA ha (sbZ shS hT0 (St.nil hG0)));clear hG0 hA0 hT0;go_enter Tryz.func68, Tryz.ntmps68
 go_upto_region 1 with fail
 clear hW;generalize w.heap.size = zz at *
 refine reg [eP zz 3, gN q, gN (-(q)), eP zz 0, gN p, gN (-(p)), gS (-(q)) (-(p)), .any] [.k, .s 7 6] [] [] gs0 (fun Z => ?_) fun v1 w1 X gs1 => ?_
 ·refine JC.p Z $ JW.pt 0 3 Z $ JW.ca (fun Y => tZ _ q _ (Y.d 1)) Z $ JC.p Z $ JW.pt 0 0 Z $ JW.ca (fun Y => tZ _ p _ (Y.d 4)) Z $ JC.bs 2 5 Z $ JC.s6 (n := 1) rfl aL Z $ Ja.Steps.nil
 clear X gs0;go_wp2_with fail
 exact bT 1 gs1
theorem qO (a : Value) (p q : Rat) (w : World) (ha : Ns w a p q) (hB : sz p + sz q ≤ LIM) :
  Calls Tryz.prog 59 #[a] w fun e w' => ∃ r, e = .returned r ∧ Ns w' r p q ∧ Q w w' := by
 obtain ⟨a0, a1, a2, a3, a4, a5, rfl, jA⟩ := fmS ha;obtain ⟨w0, hW, hG0, hA0, hT0⟩ := cK w 30 [a0, a1, a2, a3, a4, a5] 30 [.bool false, .slice none 0 0, .slice none 0 0, .bool false, .slice none 0 0, .slice none 0 0];have HB := yW hB; clear hB;have gs0 := yW (sbS hA0 jA ha (sbZ shS hT0 (St.nil hG0)));clear hG0 hA0 hT0;go_enter Tryz.func59, Tryz.ntmps59
 go_upto_region 1 with fail
 clear hW;generalize w.heap.size = zz at *
 refine reg [eP zz 0, gN p, gN p, eP zz 3, gN q, gN q, gS p q, .any] [.k, .s 7 6] [] [] gs0 (fun Z => ?_) fun v1 w1 X gs1 => ?_
 ·refine JC.p Z $ JW.pt 0 0 Z $ JW.ca (fun Y => aB9 _ _ _ (Y.d 1) (Nat.le_trans (gP _) (ha1 HB (by omega))) (Nat.le_trans (fZ _) (ha1 HB (by omega)))) Z $ JC.p Z $ JW.pt 0 3 Z $ JW.ca (fun Y => aB9 _ _ _ (Y.d 4) (Nat.le_trans (gP _) (ha1 HB (by omega))) (Nat.le_trans (fZ _) (ha1 HB (by omega)))) Z $ JC.bs 2 5 Z $ JC.s6 (n := 1) rfl aL Z $ Ja.Steps.nil
 clear X gs0;go_wp2_with fail
 exact bT 1 gs1
theorem uD (a y : Value) (p q x : Rat) (w : World) (ha : Ns w a p q) (hx : Nq w y x) (hB : 64 * (sz p + sz q + sz x) + 400 ≤ LIM) :
  Calls Tryz.prog 52 #[a, y] w fun e w' => e = .returned (.bool (decide (p ≤ x ∧ x ≤ q))) ∧ Q w w' := by
 obtain ⟨a0, a1, a2, a3, a4, a5, rfl, jA⟩ := fmS ha;obtain ⟨b0, b1, b2, rfl, jB⟩ := fmN hx;obtain ⟨w0, hW, hG0, hA0, hB0⟩ := cK w 30 [a0, a1, a2, a3, a4, a5] 28 [b0, b1, b2];have HB := yW hB; clear hB;have gs0 := yW (sbS hA0 jA ha (sbN hB0 jB hx (St.nil hG0)));clear hG0 hA0 hB0;go_enter Tryz.func52, Tryz.ntmps52
 go_upto_region 1 with fail
 clear hW;generalize w.heap.size = zz at *
 by_cases hC : p ≤ x
 ·have HC := yW hC; clear hC;by_cases hD : x ≤ q
  ·have HD := yW hD; clear hD;refine reg [eP zz 0, gN p, gN x, eI (rc p x), eB true, eB true, gN x, eP zz 3, gN q, eI (rc x q), eB true, eB true, eB true] [] [] [] gs0 (fun Z => ?_) fun v1 w1 X gs1 => ?_
   ·refine JC.p Z $ JW.pt 0 0 Z $ JW.ld 1 Z $ JW.ca (fun Y => (iQ _ _ _ _ _ (Y.d 1) (Y.d 2) (ha1 HB (by omega))).mono mo0) Z $ JC.u (.bool (decide ((rc p x) ≤ (0)))) (congrArg Value.bool (decide_eq_true (show ((rc p x : Int) ≤ 0) from (eU p x).2 HC.out))) Z $ JC.p Z $ JW.ld 1 Z $ JC.p Z $ JW.pt 0 3 Z $ JW.ca (fun Y => (iQ _ _ _ _ _ (Y.d 6) (Y.d 8) (ha1 HB (by omega))).mono mo0) Z $ JC.u (.bool (decide ((rc x q) ≤ (0)))) (congrArg Value.bool (decide_eq_true (show ((rc x q : Int) ≤ 0) from (eU x q).2 HD.out))) Z $ JC.p Z $ JC.p Z $ Ja.Steps.nil
   rw [X.out.e 12 rfl rfl];clear X gs0;go_wp2_with fail
   go_ret
   exact ⟨by rw [decide_eq_true (show p ≤ x ∧ x ≤ q from ⟨HC.out, HD.out⟩)]; rfl, gs1.out.q⟩
  ·have HD := yW hD; clear hD;refine reg [eP zz 0, gN p, gN x, eI (rc p x), eB true, eB true, gN x, eP zz 3, gN q, eI (rc x q), eB false, eB false, eB false] [] [] [] gs0 (fun Z => ?_) fun v1 w1 X gs1 => ?_
   ·refine JC.p Z $ JW.pt 0 0 Z $ JW.ld 1 Z $ JW.ca (fun Y => (iQ _ _ _ _ _ (Y.d 1) (Y.d 2) (ha1 HB (by omega))).mono mo0) Z $ JC.u (.bool (decide ((rc p x) ≤ (0)))) (congrArg Value.bool (decide_eq_true (show ((rc p x : Int) ≤ 0) from (eU p x).2 HC.out))) Z $ JC.p Z $ JW.ld 1 Z $ JC.p Z $ JW.pt 0 3 Z $ JW.ca (fun Y => (iQ _ _ _ _ _ (Y.d 6) (Y.d 8) (ha1 HB (by omega))).mono mo0) Z $ JC.u (.bool (decide ((rc x q) ≤ (0)))) (congrArg Value.bool (decide_eq_false (show ¬ ((rc x q : Int) ≤ 0) from fun h => HD.out ((eU x q).1 h)))) Z $ JC.p Z $ JC.p Z $ Ja.Steps.nil
   rw [X.out.e 12 rfl rfl];clear X gs0;go_wp2_with fail
   go_ret
   exact ⟨by rw [decide_eq_false (show ¬ (p ≤ x ∧ x ≤ q) from fun h => HD.out h.2)]; rfl, gs1.out.q⟩
 ·have HC := yW hC; clear hC;refine reg [eP zz 0, gN p, gN x, eI (rc p x), eB false, eB false, .no, .no, .no, .no, .no, eB false, eB false] [] [] [] gs0 (fun Z => ?_) fun v1 w1 X gs1 => ?_
  ·refine JC.p Z $ JW.pt 0 0 Z $ JW.ld 1 Z $ JW.ca (fun Y => (iQ _ _ _ _ _ (Y.d 1) (Y.d 2) (ha1 HB (by omega))).mono mo0) Z $ JC.u (.bool (decide ((rc p x) ≤ (0)))) (congrArg Value.bool (decide_eq_false (show ¬ ((rc p x : Int) ≤ 0) from fun h => HC.out ((eU p x).1 h)))) Z $ JC.p Z $ JC.n Z $ JC.n Z $ JC.n Z $ JC.n Z $ JC.n Z $ JC.p Z $ JC.p Z $ Ja.Steps.nil
  rw [X.out.e 12 rfl rfl];clear X gs0;go_wp2_with fail
  go_ret
  exact ⟨by rw [decide_eq_false (show ¬ (p ≤ x ∧ x ≤ q) from fun h => HC.out h.1)]; rfl, gs1.out.q⟩
theorem aFg (a y : Value) (p q x : Rat) (w : World) (ha : Ns w a p q) (hx : Nq w y x) (hB : 64 * (2 * (sz p + sz q) + sz x) + 400 ≤ LIM) :
  Calls Tryz.prog 29 #[a, y] w fun e w' => e = .returned (.bool (decide (aB p q ≤ x ∧ x ≤ aA p q))) ∧ Q w w' := by
 obtain ⟨a0, a1, a2, a3, a4, a5, rfl, jA⟩ := fmS ha;obtain ⟨b0, b1, b2, rfl, jB⟩ := fmN hx;obtain ⟨w0, hW, hG0, hA0, hB0⟩ := cK w 30 [a0, a1, a2, a3, a4, a5] 28 [b0, b1, b2];have HB := yW hB; clear hB;have gs0 := yW (sbS hA0 jA ha (sbN hB0 jB hx (St.nil hG0)));clear hG0 hA0 hB0;go_enter Tryz.func29, Tryz.ntmps29
 go_upto_region 1 with fail
 clear hW;generalize w.heap.size = zz at *
 have Z1 := bO (zr p) (zr q);have Z2 := bL (zr p) (zr q);refine reg [gS p q, gS (aB p q) (aA p q), gN x, eB (decide (aB p q ≤ x ∧ x ≤ aA p q)), eB (decide (aB p q ≤ x ∧ x ≤ aA p q))] [] [] [] gs0 (fun Z => ?_) fun v1 w1 X gs1 => ?_
 ·refine JW.ld 0 Z $ JW.ca (fun Y => dC _ _ _ _ (Y.d 0) (ha1 HB (by omega))) Z $ JW.ld 1 Z $ JW.ca (fun Y => (uD _ _ (aB p q) (aA p q) x _ (Y.d 1) (Y.d 2) (ha3 Z1 Z2 HB (by omega))).mono mo0) Z $ JC.p Z $ Ja.Steps.nil
 rw [X.out.e 4 rfl rfl];clear X gs0;go_wp2_with fail
 go_ret
 exact ⟨rfl, gs1.out.q⟩
theorem aHG (y : Value) (x : Rat) (w : World) (hx : Nq w y x) (hB : sz x + sz x ≤ LIM) :
  Calls Tryz.prog 36 #[y] w fun e w' => ∃ r, e = .returned r ∧ Ns w' r x x ∧ Q w w' := by
 obtain ⟨a0, a1, a2, rfl, jA⟩ := fmN hx;obtain ⟨w0, hW, hG0, hA0, hT0⟩ := cK w 28 [a0, a1, a2] 30 [.bool false, .slice none 0 0, .slice none 0 0, .bool false, .slice none 0 0, .slice none 0 0];have HB := yW hB; clear hB;have gs0 := yW (sbN hA0 jA hx (sbZ shS hT0 (St.nil hG0)));clear hG0 hA0 hT0;go_enter Tryz.func36, Tryz.ntmps36
 go_upto_region 1 with fail
 clear hW;generalize w.heap.size = zz at *
 refine reg [gN x, gN x, gS x x, gS x x, .any] [.k, .s 4 3] [] [] gs0 (fun Z => ?_) fun v1 w1 X gs1 => ?_
 ·refine JW.ld 0 Z $ JW.ld 0 Z $ JC.bs 0 1 Z $ JW.ca (fun Y => qO _ _ _ _ (Y.d 2) (ha1 HB (by omega))) Z $ JC.s6 (n := 1) rfl aL Z $ Ja.Steps.nil
 clear X gs0;go_wp2_with fail
 exact bT 1 gs1
theorem aFh (a : Value) (p q : Rat) (w : World) (ha : Ns w a p q) (hB : 64 * (sz p + sz q) + 400 ≤ LIM) :
  Calls Tryz.prog 19 #[a] w fun e w' => ∃ r, e = .returned r ∧ Ns w' r (-aA p q) (-aB p q) ∧ Q w w' := by
 obtain ⟨a0, a1, a2, a3, a4, a5, rfl, jA⟩ := fmS ha;obtain ⟨w0, hW, hG0, hA0, hT0⟩ := cK w 30 [a0, a1, a2, a3, a4, a5] 30 [.bool false, .slice none 0 0, .slice none 0 0, .bool false, .slice none 0 0, .slice none 0 0];have HB := yW hB; clear hB;have gs0 := yW (sbS hA0 jA ha (sbZ shS hT0 (St.nil hG0)));clear hG0 hA0 hT0;go_enter Tryz.func19, Tryz.ntmps19
 go_upto_region 1 with fail
 clear hW;generalize w.heap.size = zz at *
 have Z1 := bO (zr p) (zr q);have Z2 := bL (zr p) (zr q);have Z3 := pJ Z1;have Z4 := pJ Z2;refine reg [gS p q, gS (aB p q) (aA p q), gS (-(aA p q)) (-(aB p q)), gS (-(aA p q)) (-(aB p q)), .any] [.k, .s 4 3] [] [] gs0 (fun Z => ?_) fun v1 w1 X gs1 => ?_
 ·refine JW.ld 0 Z $ JW.ca (fun Y => dC _ _ _ _ (Y.d 0) (ha1 HB (by omega))) Z $ JW.ca (fun Y => rA _ _ _ _ (Y.d 1)) Z $ JW.ca (fun Y => qO _ _ _ _ (Y.d 2) (ha3 Z4 Z3 HB (by omega))) Z $ JC.s6 (n := 1) rfl aL Z $ Ja.Steps.nil
 clear X gs0;go_wp2_with fail
 exact bT 1 gs1
theorem aCQ (a : Value) (p q : Rat) (w : World) (hT : Tb w) (ha : Ns w a p q) (hB : 64 * (sz p + sz q) + 400 ≤ LIM) :
  Calls Tryz.prog 34 #[a] w fun e w' => ∃ r, e = .returned r ∧ Nq w' r (gK (q - p)) ∧ Q w w' := by
 obtain ⟨a0, a1, a2, a3, a4, a5, rfl, jA⟩ := fmS ha;obtain ⟨w0, hW, hG0, hA0, hT0⟩ := cK w 30 [a0, a1, a2, a3, a4, a5] 28 [.bool false, .slice none 0 0, .slice none 0 0];have HB := yW hB; clear hB;have gs0 := yW (sbS hA0 jA ha (sbZ shN hT0 (St.nil hG0)));clear hG0 hA0 hT0;go_enter Tryz.func34, Tryz.ntmps34
 go_upto_region 1 with fail
 clear hW;generalize w.heap.size = zz at *
 have Z1 := aDP (zr q) (zr p);refine reg [eP zz 3, gN q, eP zz 0, gN p, gN ((q) - (p)), gN (gK ((q) - (p))), .any] [.k, .s 6 5] [] [] gs0 (fun Z => ?_) fun v1 w1 X gs1 => ?_
 ·refine JC.p Z $ JW.pt 0 3 Z $ JC.p Z $ JW.pt 0 0 Z $ JW.ca (fun Y => aD0 _ _ _ _ _ (hT.q Y.q) (Y.d 1) (Y.d 3) (ha1 HB (by omega))) Z $ JW.ca (fun Y => aCc _ ((q) - (p)) _ (Y.d 4)) Z $ JC.s3 (n := 1) rfl iO Z $ Ja.Steps.nil
 clear X gs0;go_wp2_with fail
 exact bT 1 gs1
theorem aFi (a : Value) (p q : Rat) (w : World) (hT : Tb w) (ha : Ns w a p q) (hB : 64 * (sz p + sz q) + 400 ≤ LIM) :
  Calls Tryz.prog 32 #[a] w fun e w' => ∃ r, e = .returned r ∧ Nq w' r ((p + q) * (1 / 2)) ∧ Q w w' := by
 obtain ⟨a0, a1, a2, a3, a4, a5, rfl, jA⟩ := fmS ha;obtain ⟨w0, hW, hG0, hA0, hT0⟩ := cK w 30 [a0, a1, a2, a3, a4, a5] 28 [.bool false, .slice none 0 0, .slice none 0 0];have HB := yW hB; clear hB;have gs0 := yW (sbS hA0 jA ha (sbZ shN hT0 (St.nil hG0)));clear hG0 hA0 hT0;go_enter Tryz.func32, Tryz.ntmps32
 go_upto_region 1 with fail
 clear hW;generalize w.heap.size = zz at *
 have ZH : Hid (sz (1 / 2 : Rat) ≤ 4) := yW aDh;have Z1 := xR (zr p) (zr q);refine reg [eP zz 0, gN p, eP zz 3, gN q, gN ((p) + (q)), .gen (pVn 1), .gen (pVn 2), gN (1 / 2), gN (((p) + (q)) * (1 / 2)), .any] [.k, .s 9 8] [] [] gs0 (fun Z => ?_) fun v1 w1 X gs1 => ?_
 ·refine JC.p Z $ JW.pt 0 0 Z $ JC.p Z $ JW.pt 0 3 Z $ JW.ca (fun Y => aBg _ _ _ _ _ (hT.q Y.q) (Y.d 1) (Y.d 3) (ha1 HB (by omega))) Z $ JW.ca (fun Y => (fH 1 1 _ rfl (by decide)).mono mo4) Z $ JW.ca (fun Y => (fH 2 2 _ rfl (by decide)).mono mo4) Z $ JW.ca (fun Y => aII _ _ _ (Y.d 5) (Y.d 6)) Z $ JW.ca (fun Y => iL _ _ _ _ _ (hT.q Y.q) (Y.d 4) (Y.d 7) (ha3 Z1 ZH HB (by omega))) Z $ JC.s3 (n := 1) rfl iO Z $ Ja.Steps.nil
 clear X gs0;go_wp2_with fail
 exact bT 1 gs1
theorem aFj (a : Value) (p q : Rat) (z : Int) (w : World) (hT : Tb w) (ha : Ns w a p q) (hB : 2000 * (sz p + sz q) + 500000 ≤ LIM) :
  Calls Tryz.prog 25 #[a, .int .i64 z] w fun e w' => ∃ r, e = .returned r ∧ Ns w' r (dn (bG z) (aB p q)) (up (bG z) (aA p q)) ∧ Q w w' := by
 obtain ⟨a0, a1, a2, a3, a4, a5, rfl, jA⟩ := fmS ha;obtain ⟨w0, hW, hG0, hA0, hT0⟩ := cK w 30 [a0, a1, a2, a3, a4, a5] 30 [.bool false, .slice none 0 0, .slice none 0 0, .bool false, .slice none 0 0, .slice none 0 0];have HB := yW hB; clear hB;have gs0 := yW (sbS hA0 jA ha (sbZ shS hT0 (St.nil hG0)));clear hG0 hA0 hT0;go_enter Tryz.func25, Tryz.ntmps25
 go_upto_region 1 with fail
 clear hW;generalize w.heap.size = zz at *
 have Z1 := bO (zr p) (zr q);have Z2 := bL (zr p) (zr q);refine reg [gS p q, gS (aB p q) (aA p q), .any] [.s 2 1] [] [] gs0 (fun Z => ?_) fun v1 w1 X gs1 => ?_
 ·refine JW.ld 0 Z $ JW.ca (fun Y => dC _ _ _ _ (Y.d 0) (ha1 HB (by omega))) Z $ JC.s6 (n := 0) rfl aL Z $ Ja.Steps.nil
 clear X gs0;go_upto_region 2 with fail
 refine reg [eP zz 0, gN (aB p q), eI z, gN (dn (bG z) (aB p q)), eP zz 3, gN (aA p q), eI z, gN (up (bG z) (aA p q)), gS (dn (bG z) (aB p q)) (up (bG z) (aA p q)), .any] [.k, .s 9 8] [] [] gs1 (fun Z => ?_) fun v2 w2 X gs2 => ?_
 ·refine JC.p Z $ JW.pt 0 0 Z $ JC.p Z $ JW.ca (fun Y => aFc _ (aB p q) z _ (hT.q Y.q) (Y.d 1) (ha2 Z1 HB (by omega))) Z $ JC.p Z $ JW.pt 0 3 Z $ JC.p Z $ JW.ca (fun Y => aJw _ (aA p q) z _ (hT.q Y.q) (Y.d 5) (ha2 Z2 HB (by omega))) Z $ JC.bs 3 7 Z $ JC.s6 (n := 1) rfl aL Z $ Ja.Steps.nil
 clear X gs1;go_wp2_with fail
 exact bT 1 gs2
def kC (z : Int) : Nat := if z < 0 then 0 else if 64 < z then 64 else z.toNat
theorem aAs (z : Int) : kC z ≤ 64 := by unfold kC; split <;> (try split) <;> omega
theorem zL (z : Int) : min (max z 0) 64 = (kC z : Int) := by unfold kC; split <;> (try split) <;> omega
theorem aAV (a : Value) (p q : Rat) (z : Int) (w : World) (ha : Ns w a p q) (hB : sz p + sz q ≤ 10000000) :
  Calls Tryz.prog 21 #[a, .int .i64 z] w fun e w' => ∃ r, e = .returned r ∧ Ns w' r (qlo (kC z) (aB p q) (aA p q)) (qhi (kC z) (aB p q) (aA p q)) ∧ Q w w' := by
 obtain ⟨a0, a1, a2, a3, a4, a5, rfl, jA⟩ := fmS ha;obtain ⟨w0, hW, hG0, hA0, hT0⟩ := cK w 30 [a0, a1, a2, a3, a4, a5] 30 [.bool false, .slice none 0 0, .slice none 0 0, .bool false, .slice none 0 0, .slice none 0 0];have gs0 := yW (sbS hA0 jA ha (sbZ shS hT0 (St.nil hG0)));clear hG0 hA0 hT0;obtain ⟨Z1, Z2⟩ := bz2 hB; clear hB;obtain ⟨n, hnn⟩ : ∃ n, kC z = n := ⟨_, rfl⟩
 have hn64 : n ≤ 64 := by rw [← hnn]; exact aAs z
 have hmx := zL z;rw [hnn] at hmx;rw [hnn];clear hnn;go_enter Tryz.func21, Tryz.ntmps21
 go_upto_region 1 with fail
 clear hW;generalize w.heap.size = zz at *
 have Z3 := bO Z1 Z2;have Z4 := bL Z1 Z2;refine reg [gS p q, gS (aB p q) (aA p q), .any] [.s 2 1] [] [] gs0 (fun Z => ?_) fun v1 w1 X gs1 => ?_
 ·refine JW.ld 0 Z $ JW.ca (fun Y => dC _ _ _ _ (Y.d 0) (bb2 Z1 Z2)) Z $ JC.s6 (n := 0) rfl aL Z $ Ja.Steps.nil
 clear X gs0;go_upto_region 3 with fail
 clear hmx;have Z5 : Hid (sz ((aB (p) (q)) ^ n) ≤ 1280000002) := yW (by have h9 := Nat.le_trans (uY (aB (p) (q)) n) (Nat.add_le_add_right (Nat.mul_le_mul_right _ hn64) 2); have h0 := Z3.out; omega);have Z6 : Hid (sz ((aA (p) (q)) ^ n) ≤ 1280000002) := yW (by have h9 := Nat.le_trans (uY (aA (p) (q)) n) (Nat.add_le_add_right (Nat.mul_le_mul_right _ hn64) 2); have h0 := Z4.out; omega);refine reg [eP zz 0, gN (aB p q), eI ((n : Int)), gN ((aB p q) ^ n), eP zz 3, gN (aA p q), eI ((n : Int)), gN ((aA p q) ^ n), .any, .any, .any, .any] [] [⟨8, 28, [.b, .s, .s], zN, .s 10 3⟩, ⟨9, 28, [.b, .s, .s], zN, .s 11 7⟩] [] gs1 (fun Z => ?_) fun v2 w2 X gs2 => ?_
 ·refine JC.p Z $ JW.pt 0 0 Z $ JC.p Z $ JW.ca (fun Y => aDf _ (aB p q) _ n _ (Y.d 1) (yW rfl) hn64 (bb1 Z3)) Z $ JC.p Z $ JW.pt 0 3 Z $ JC.p Z $ JW.ca (fun Y => aDf _ (aA p q) _ n _ (Y.d 5) (yW rfl) hn64 (bb1 Z4)) Z $ JC.al (n := 2) shN Z $ JC.al (n := 3) shN Z $ JC.s3 (n := 2) rfl iO Z $ JC.s3 (n := 3) rfl iO Z $ Ja.Steps.nil
 rw [X.out.f 8 rfl, X.out.f 9 rfl];clear X gs1;go_upto_region 4 with fail
 have hle : aB (p) (q) ≤ aA (p) (q) := iT p q;have HLE := yW hle; clear hle;by_cases h0 : n = 0
 ·have H0 : Hid ((n : Int) = 0) := yW (by omega);have H00 := yW h0; clear h0;refine reg [eI ((n : Int)), eB true, eB true, .no, .no, .no, eB true, eB true, .no, .no, .no, .no, eB true, eB true] [] [] [] gs2 (fun Z => ?_) fun v3 w3 X gs3 => ?_
  ·refine JC.p Z $ JC.u (.bool (((n : Int)) == (0))) (congrArg Value.bool (beq_iff_eq.2 (H0.out))) Z $ JC.p Z $ JC.n Z $ JC.n Z $ JC.n Z $ JC.p Z $ JC.p Z $ JC.n Z $ JC.n Z $ JC.n Z $ JC.n Z $ JC.p Z $ JC.p Z $ Ja.Steps.nil
  rw [X.out.e 13 rfl rfl];clear X gs2;go_upto_region 5 with fail
  refine reg [gN ((aB p q) ^ n), gN ((aA p q) ^ n), gS ((aB p q) ^ n) ((aA p q) ^ n), .any] [.k, .s 3 2] [] [] gs3 (fun Z => ?_) fun v4 w4 X gs4 => ?_
  ·refine JW.ld 2 Z $ JW.ld 3 Z $ JC.bs 0 1 Z $ JC.s6 (n := 1) rfl aL Z $ Ja.Steps.nil
  clear X gs3;go_wp2_with fail
  have hps := uW HLE.out (Or.inl H00.out);exact eQ 1 gs4 (hR := fun h hq => by have h : Ns w4 (v4 2) ((aB (p) (q)) ^ n) ((aA (p) (q)) ^ n) := h; rw [hps.1, hps.2] at h; exact ⟨_, rfl, h, hq⟩)
 have H0 : Hid (¬ (n : Int) = 0) := yW (by omega);have H00 := yW h0; clear h0;by_cases h1 : n % 2 = 1
 ·have H1 : Hid ((n : Int).tmod 2 = 1) := yW (by have : (n : Int).tmod 2 = ((n % 2 : Nat) : Int) := rfl; omega);have H11 := yW h1; clear h1;refine reg [eI ((n : Int)), eB false, eB false, eI ((n : Int)), eI ((n : Int).tmod 2), eB true, eB true, eB true, .no, .no, .no, .no, eB true, eB true] [] [] [] gs2 (fun Z => ?_) fun v3 w3 X gs3 => ?_
  ·refine JC.p Z $ JC.u (.bool (((n : Int)) == (0))) (congrArg Value.bool (beq_eq_false_iff_ne.2 (H0.out))) Z $ JC.p Z $ JC.p Z $ ?_;refine JC.o Z ?_ ?_
   ·intro L vals W hL hJ hd K hK;have d3 : vals 3 = .int .i64 ((n : Int)) := hd 3 (by kernel_rfl);generalize vals 3 = u3 at d3 hK ⊢;subst d3;go_simp
    exact hK.out (.int .i64 ((n : Int).tmod 2)) _ _ (by kernel_rfl) rfl (Q.refl _)
   refine JC.u (.bool (((n : Int).tmod 2) == (1))) (congrArg Value.bool (beq_iff_eq.2 (H1.out))) Z $ JC.p Z $ JC.p Z $ JC.n Z $ JC.n Z $ JC.n Z $ JC.n Z $ JC.p Z $ JC.p Z $ Ja.Steps.nil
  rw [X.out.e 13 rfl rfl];clear X gs2;go_upto_region 5 with fail
  refine reg [gN ((aB p q) ^ n), gN ((aA p q) ^ n), gS ((aB p q) ^ n) ((aA p q) ^ n), .any] [.k, .s 3 2] [] [] gs3 (fun Z => ?_) fun v4 w4 X gs4 => ?_
  ·refine JW.ld 2 Z $ JW.ld 3 Z $ JC.bs 0 1 Z $ JC.s6 (n := 1) rfl aL Z $ Ja.Steps.nil
  clear X gs3;go_wp2_with fail
  have hps := uW HLE.out (Or.inr (Or.inl H11.out));exact eQ 1 gs4 (hR := fun h hq => by have h : Ns w4 (v4 2) ((aB (p) (q)) ^ n) ((aA (p) (q)) ^ n) := h; rw [hps.1, hps.2] at h; exact ⟨_, rfl, h, hq⟩)
 have H1 : Hid (¬ (n : Int).tmod 2 = 1) := yW (by have : (n : Int).tmod 2 = ((n % 2 : Nat) : Int) := rfl; omega);have H11 : Hid (n % 2 = 0) := yW (by omega); clear h1;by_cases h2 : aB (p) (q) < 0
 ·have H2 := yW h2; clear h2;refine reg [eI ((n : Int)), eB false, eB false, eI ((n : Int)), eI ((n : Int).tmod 2), eB false, eB false, eB false, eP zz 0, eP zz 0, eB true, eB false, eB false, eB false] [] [] [] gs2 (fun Z => ?_) fun v3 w3 X gs3 => ?_
  ·refine JC.p Z $ JC.u (.bool (((n : Int)) == (0))) (congrArg Value.bool (beq_eq_false_iff_ne.2 (H0.out))) Z $ JC.p Z $ JC.p Z $ ?_;refine JC.o Z ?_ ?_
   ·intro L vals W hL hJ hd K hK;have d3 : vals 3 = .int .i64 ((n : Int)) := hd 3 (by kernel_rfl);generalize vals 3 = u3 at d3 hK ⊢;subst d3;go_simp
    exact hK.out (.int .i64 ((n : Int).tmod 2)) _ _ (by kernel_rfl) rfl (Q.refl _)
   refine JC.u (.bool (((n : Int).tmod 2) == (1))) (congrArg Value.bool (beq_eq_false_iff_ne.2 (H1.out))) Z $ JC.p Z $ JC.p Z $ JC.p Z $ JC.p Z $ JW.ce 0 0 (ns0 (decide_eq_true (H2.out))) Z $ JC.p Z $ JC.p Z $ JC.p Z $ Ja.Steps.nil
  rw [X.out.e 13 rfl rfl];clear X gs2;go_upto_region 6 with fail
  by_cases h3 : aA (p) (q) < 0
  ·have H3 := yW h3; clear h3;refine reg [eP zz 3, eP zz 3, eB true, eB true] [] [] [] gs3 (fun Z => ?_) fun v4 w4 X gs4 => ?_
   ·refine JC.p Z $ JC.p Z $ JW.ce 0 3 (ns3 (decide_eq_true (H3.out))) Z $ JC.p Z $ Ja.Steps.nil
   rw [X.out.e 3 rfl rfl];clear X gs3;go_upto_region 7 with fail
   refine reg [gN ((aA p q) ^ n), gN ((aB p q) ^ n), gS ((aA p q) ^ n) ((aB p q) ^ n), .any] [.k, .s 3 2] [] [] gs4 (fun Z => ?_) fun v5 w5 X gs5 => ?_
   ·refine JW.ld 3 Z $ JW.ld 2 Z $ JC.bs 0 1 Z $ JC.s6 (n := 1) rfl aL Z $ Ja.Steps.nil
   clear X gs4;go_wp2_with fail
   have hps := aEK HLE.out H11.out H3.out;exact eQ 1 gs5 (hR := fun h hq => by have h : Ns w5 (v5 2) ((aA (p) (q)) ^ n) ((aB (p) (q)) ^ n) := h; rw [hps.1, hps.2] at h; exact ⟨_, rfl, h, hq⟩)
  ·have H3 := yW h3; clear h3;refine reg [eP zz 3, eP zz 3, eB false, eB false] [] [] [] gs3 (fun Z => ?_) fun v4 w4 X gs4 => ?_
   ·refine JC.p Z $ JC.p Z $ JW.ce 0 3 (ns3 (decide_eq_false (H3.out))) Z $ JC.p Z $ Ja.Steps.nil
   rw [X.out.e 3 rfl rfl];clear X gs3;go_upto_region 8 with fail
   have Z7 := bL Z5 Z6;refine reg [gN 0, gN ((aB p q) ^ n), gN ((aA p q) ^ n), gN (aA ((aB p q) ^ n) ((aA p q) ^ n)), gS 0 (aA ((aB p q) ^ n) ((aA p q) ^ n)), .any] [.k, .s 5 4] [] [] gs4 (fun Z => ?_) fun v5 w5 X gs5 => ?_
   ·refine JC.o Z ?_ ?_
    ·intro L vals W hL hJ hd K hK;go_simp
     exact hK.out (.agg #[.bool false, .slice none 0 0, .slice none 0 0]) _ _ (by kernel_rfl) (iU W) (Q.refl _)
    refine JW.ld 2 Z $ JW.ld 3 Z $ JW.ca (fun Y => qK _ _ _ _ _ (Y.d 1) (Y.d 2) (bb2 Z5 Z6)) Z $ JC.bs 0 3 Z $ JC.s6 (n := 1) rfl aL Z $ Ja.Steps.nil
   clear X gs4;go_wp2_with fail
   have hps := aEL (Nat.pos_of_ne_zero H00.out) H11.out H2.out (Rat.not_lt.1 H3.out);exact eQ 1 gs5 (hR := fun h hq => by have h : Ns w5 (v5 4) (0) (aA ((aB (p) (q)) ^ n) ((aA (p) (q)) ^ n)) := h; rw [hps.1, hps.2] at h; exact ⟨_, rfl, h, hq⟩)
 ·have H2 := yW h2; clear h2;refine reg [eI ((n : Int)), eB false, eB false, eI ((n : Int)), eI ((n : Int).tmod 2), eB false, eB false, eB false, eP zz 0, eP zz 0, eB false, eB true, eB true, eB true] [] [] [] gs2 (fun Z => ?_) fun v3 w3 X gs3 => ?_
  ·refine JC.p Z $ JC.u (.bool (((n : Int)) == (0))) (congrArg Value.bool (beq_eq_false_iff_ne.2 (H0.out))) Z $ JC.p Z $ JC.p Z $ ?_;refine JC.o Z ?_ ?_
   ·intro L vals W hL hJ hd K hK;have d3 : vals 3 = .int .i64 ((n : Int)) := hd 3 (by kernel_rfl);generalize vals 3 = u3 at d3 hK ⊢;subst d3;go_simp
    exact hK.out (.int .i64 ((n : Int).tmod 2)) _ _ (by kernel_rfl) rfl (Q.refl _)
   refine JC.u (.bool (((n : Int).tmod 2) == (1))) (congrArg Value.bool (beq_eq_false_iff_ne.2 (H1.out))) Z $ JC.p Z $ JC.p Z $ JC.p Z $ JC.p Z $ JW.ce 0 0 (ns0 (decide_eq_false (H2.out))) Z $ JC.p Z $ JC.p Z $ JC.p Z $ Ja.Steps.nil
  rw [X.out.e 13 rfl rfl];clear X gs2;go_upto_region 5 with fail
  refine reg [gN ((aB p q) ^ n), gN ((aA p q) ^ n), gS ((aB p q) ^ n) ((aA p q) ^ n), .any] [.k, .s 3 2] [] [] gs3 (fun Z => ?_) fun v4 w4 X gs4 => ?_
  ·refine JW.ld 2 Z $ JW.ld 3 Z $ JC.bs 0 1 Z $ JC.s6 (n := 1) rfl aL Z $ Ja.Steps.nil
  clear X gs3;go_wp2_with fail
  have hps := uW (n := n) HLE.out (Or.inr (Or.inr (Rat.not_lt.1 H2.out)));exact eQ 1 gs4 (hR := fun h hq => by have h : Ns w4 (v4 2) ((aB (p) (q)) ^ n) ((aA (p) (q)) ^ n) := h; rw [hps.1, hps.2] at h; exact ⟨_, rfl, h, hq⟩)
end Go.Proofs.YtajbfablmpmgbaaGreatDoor.K
namespace Go.Proofs.YtajbfablmpmgbaaGreatDoor
open Go.RowKit
open Ma Me
theorem aCg {a b : Value} {x y : Bool} (h : x = y) : Ending.returned (.tuple #[a, b, .bool x]) = .returned (.tuple #[a, b, .bool y]) := by rw [h]
theorem toList_mk (l : List UInt8) : (⟨l.toArray⟩ : ByteArray).data.toList = l := rfl
theorem aAt {l : List UInt8} {c : UInt8} {k : Nat} (h : l[k]? = some c) (hn : ∀ j, j < k → l[j]? ≠ some c) : fU c l = l.take k ∧ aft c l = l.drop (k + 1) ∧ c ∈ l := by
 have hk : k < l.length := by
  rcases Nat.lt_or_ge k l.length with h1 | h1
  ·exact h1
  ·rw [List.getElem?_eq_none h1] at h; cases h
 have e : l = l.take k ++ c :: l.drop (k + 1) := by
  have h1 : l[k] = c := (by rw [List.getElem?_eq_getElem hk] at h; exact Option.some.inj h);rw [← h1, ← List.drop_eq_getElem_cons hk, List.take_append_drop]
 have hc : c ∉ l.take k := by
  intro hm;obtain ⟨j, hj, hj2⟩ := List.getElem_of_mem hm;rw [List.length_take] at hj;refine hn j (by omega) ?_;rw [List.getElem_take] at hj2;rw [List.getElem?_eq_getElem (by omega), hj2]
 have hf := aC4 (s := l.drop (k + 1)) hc;rw [← e] at hf;exact ⟨hf.1, hf.2, List.mem_of_getElem? h⟩
def aFk (l : List UInt8) (c : UInt8) (w : World) (e : Ending) (w' : World) : Prop := ∃ a b : ByteArray, e = .returned (.tuple #[.string a, .string b, .bool (decide (c ∈ l))]) ∧ a.data.toList = fU c l ∧ b.data.toList = aft c l ∧ Q w w'
theorem aIJ (s : ByteArray) (c : UInt8) (w : World) (hs : s.size ≤ 9223372036854775806) : Calls Tryz.prog 128 #[.string s, .string ⟨#[c]⟩] w (aFk s.data.toList c w) := by
 have h1 := Lib.indexByte_ge s.data.toList c;have h2 := @Lib.indexByte_none s.data.toList c;have h3 := @Lib.indexByte_some s.data.toList c;have hsz := Lib.size_eq s;obtain ⟨i, hi⟩ : ∃ i, Lib.indexByte s.data.toList c = i := ⟨_, rfl⟩
 rw [hi] at h1 h2 h3;rcases (by omega : i = -1 ∨ 0 ≤ i) with rfl | h0
 ·have hn := h2 rfl;have hnm : c ∉ s.data.toList := fun hm => by
   obtain ⟨j, hj, hj2⟩ := List.getElem_of_mem hm;exact hn j (by rw [List.getElem?_eq_getElem hj, hj2])
  have HI := yW hi;clear h1 h2 h3 hn hi;obtain ⟨f1, f2⟩ := tH hnm;have HF1 := yW f1; have HF2 := yW f2; have HN := yW hnm;clear f1 f2 hnm hsz;go_enter Tryz.func128, Tryz.ntmps128
  go_wp2_with fail
  refine (Tryz.stringslite_Index_one s c _).mono ?_;rintro e w1 ⟨rfl, rfl⟩;rw [HI.out];go_wp2_with fail
  go_ret3
  exact ⟨s, ⟨#[]⟩, aCg (decide_eq_false HN.out).symm, HF1.out.symm, HF2.out.symm, Q.refl _⟩
 ·obtain ⟨k, rfl⟩ := Int.eq_ofNat_of_zero_le h0;obtain ⟨hk, hkn⟩ := h3 rfl;obtain ⟨f1, f2, f3⟩ := aAt hk hkn;have hlt : k < s.size := by
   rw [hsz];rcases Nat.lt_or_ge k s.data.toList.length with h1 | h1
   ·exact h1
   ·rw [List.getElem?_eq_none h1] at hk; cases hk
  have HI := yW hi;have HF1 := yW f1; have HF2 := yW f2; have HF3 := yW f3; have HSZ := yW hsz;clear h1 h2 h3 hi f1 f2 f3 hk hkn hsz;have q1 : (0 : Int) ≤ (k : Int) := (by omega);have q2 : (k : Int) ≤ (s.size : Int) := (by omega);have q3 : (0 : Int) ≤ (k : Int) + 1 := (by omega);have q4 : (k : Int) + 1 ≤ (s.size : Int) := (by omega);have q5 : IntKind.i64.wrap ((k : Int) + 1) = (k : Int) + 1 := IntWalk.i64_in _ (by omega);have q6 : ((k : Int) + 1).toNat = k + 1 := (by omega);go_enter Tryz.func128, Tryz.ntmps128
  go_wp2_with fail
  refine (Tryz.stringslite_Index_one s c _).mono ?_;rintro e w1 ⟨rfl, rfl⟩;rw [HI.out];go_wp2_with fail
  go_quiet (fail)
  go_wp2_with fail
  go_ret3
  exact ⟨s.extract 0 k, s.extract (k + 1) s.size, aCg (decide_eq_true HF3.out).symm, by rw [Lib.extract_data, HF1.out]; simp, by rw [Lib.extract_to_end, HF2.out], (Q.refl _).drewN _⟩
theorem aG4 (s : ByteArray) (c : UInt8) (w : World) (hs : s.size ≤ 9223372036854775806) : Calls Tryz.prog 84 #[.string s, .string ⟨#[c]⟩] w (aFk s.data.toList c w) := by
 obtain ⟨t, ht⟩ : ∃ t, decide (c ∈ s.data.toList) = t := ⟨_, rfl⟩
 have HT := yW ht;clear ht;go_enter Tryz.func84, Tryz.ntmps84
 go_wp2_with fail
 refine (aIJ s c _ hs).mono ?_;rintro e w1 ⟨a, b, rfl, ha, hb, hq⟩;rw [HT.out];have HA := yW ha; have HBb := yW hb;clear ha hb;go_wp2_with fail
 go_ret3
 exact ⟨a, b, aCg HT.out.symm, HA.out, HBb.out, hq⟩
theorem aD7 (l : List UInt8) : Lib.hasPrefix l [45] = eX l ∧ Lib.trimPrefix l [45] = unsigned l := by
 have e : Lib.hasPrefix l [45] = eX l := by
  unfold Lib.hasPrefix eX;cases l with
  | nil => rfl
  | cons c t =>
    simp [List.isPrefixOf];by_cases h : c = 45
    ·subst h; rfl
    ·rw [beq_eq_false_iff_ne.2 (fun h1 => h h1.symm), beq_eq_false_iff_ne.2 h]
 refine ⟨e, ?_⟩;unfold Lib.trimPrefix unsigned;rw [e];split
 ·cases l <;> rfl
 ·rfl
theorem vO (s : ByteArray) (w : World) : Calls Tryz.prog 83 #[.string s, .string ⟨#[45]⟩] w fun e w' => ∃ a : ByteArray, e = .returned (.tuple #[.string a, .bool (eX s.data.toList)]) ∧ a.data.toList = unsigned s.data.toList ∧ a.size ≤ s.size ∧ w' = w := by
 refine (Tryz.strings_CutPrefix s ⟨#[45]⟩ w).mono ?_;rintro e w' ⟨h1, h2⟩;obtain ⟨e1, e2⟩ := aD7 s.data.toList;have e1' : Lib.hasPrefix s.data.toList (⟨#[45]⟩ : ByteArray).data.toList = eX s.data.toList := e1;have e2' : Lib.trimPrefix s.data.toList (⟨#[45]⟩ : ByteArray).data.toList = unsigned s.data.toList := e2;rw [e1', e2'] at h1;refine ⟨_, h1, rfl, ?_, h2⟩;rw [Lib.size_eq, Lib.size_eq, toList_mk];unfold unsigned;split
 ·rw [List.length_tail]; omega
 ·exact Nat.le_refl _
theorem aFl (s : ByteArray) (l : List UInt8) (hl : s.data.toList = l) (hpos : 0 < s.size) (hA : bW l) : (s[0].toNat = 48 → decide (Row l) = ((s.size : Int) == 1)) ∧ (¬ s[0].toNat = 48 → decide (Row l) = true) := by
 have hsz := Lib.size_eq s;rw [hl] at hsz;have hh : l.head? = some s[0] := by
  rw [← hl, List.head?_eq_getElem?];have hp : 0 < s.data.toList.length := (by rw [← Lib.size_eq]; exact hpos);rw [List.getElem?_eq_getElem hp]; rfl
 have hne : l ≠ [] := fun h => by rw [h] at hh; cases hh
 constructor
 ·intro h;have h48 : s[0] = 48 := aAG h;rw [h48] at hh;by_cases h1 : s.size = 1
  ·have : l = [48] := by
    cases l with
    | nil => exact absurd rfl hne
    | cons c t =>
      simp at hh hsz;have : t = [] := List.eq_nil_of_length_eq_zero (by omega);rw [hh, this]
   rw [decide_eq_true (show Row l from ⟨hA, hne, fun _ => this⟩), h1]; rfl
  ·rw [decide_eq_false (show ¬ Row l from fun hr => h1 (by rw [hsz, hr.2.2 hh]; rfl))];exact (beq_eq_false_iff_ne.2 (by omega)).symm
 ·intro h;refine decide_eq_true ⟨hA, hne, fun h1 => absurd ?_ h⟩;rw [hh] at h1;rw [Option.some.inj h1]; rfl
theorem aDi (s : ByteArray) (w : World) : Calls Tryz.prog 85 #[.string s] w fun e w' => e = .returned (.bool (decide (Row s.data.toList))) ∧ Q w w' := by
 have hsz := Lib.size_eq s;obtain ⟨l, hl⟩ : ∃ l, s.data.toList = l := ⟨_, rfl⟩
 rw [hl] at hsz ⊢;by_cases h : bW l ∧ l ≠ []
 ·have ha : nH l = true := decide_eq_true h;have hpos : 0 < s.size := (by rw [hsz]; exact List.length_pos_iff.2 h.2);have hk := aFl s l hl hpos h.1;have HA := yW ha; have HL := yW hl; have HK := yW hk;clear ha hl h hsz hk;go_enter Tryz.func85, Tryz.ntmps85
  go_wp2_with fail
  refine (nI s _).mono ?_;rintro e w1 ⟨rfl, hq⟩;rw [HL.out, HA.out];go_wp2_with fail
  ·go_ret
   have h : (s[0].toNat : Int) = 48 := (by assumption);exact ⟨xQ (HK.out.1 (by omega)).symm, hq⟩
  ·go_ret
   have h : ¬ (s[0].toNat : Int) = 48 := (by assumption);exact ⟨xQ (HK.out.2 (by omega)).symm, hq⟩
 ·have ha : nH l = false := decide_eq_false h;have hr : decide (Row l) = false := decide_eq_false (fun hr => h ⟨hr.1, hr.2.1⟩);rw [hr];clear hr;have HA := yW ha; have HL := yW hl;clear ha hl h hsz;go_enter Tryz.func85, Tryz.ntmps85
  go_wp2_with fail
  refine (nI s _).mono ?_;rintro e w1 ⟨rfl, hq⟩;rw [HL.out, HA.out];go_wp2_with fail
  go_ret
  exact ⟨rfl, hq⟩
end Go.Proofs.YtajbfablmpmgbaaGreatDoor
