/- ValueIncludes (a part of the proof): results of numbers are in the results of their spans. No condition. -/
import Derived.Test.YtgpacgadpnpjjaaGreatDoorQn22
set_option maxHeartbeats 4000000
set_option maxRecDepth 100000
namespace Go.Proofs.YtgpacgadpnpjjaaGreatDoor
open Go.RowKit
open Ma Me
theorem nX (x : Value) (N k : Nat) (z : Int) (w : World) (hx : Nr w x N) (hz : z = (k : Int)) (h : dg B30 N ≤ LIM) (hk : k ≤ 4611686018427387904) : Calls Tryz.prog 152 #[x, .int .i64 z] w (mQ (N / 2 ^ k) w) := by
 subst hz;obtain ⟨A, c, xs, rfl, hc, rx, wx, rfl⟩ := hx;rw [← wx.len aF] at h;have hq30 : 2 ^ k = B30 ^ (k / 30) * 2 ^ (k % 30) := by
  rw [show B30 = 2 ^ 30 from rfl, ← Nat.pow_mul, ← Nat.pow_add, Nat.div_add_mod]
 rw [hq30, ← Nat.div_div_eq_div_mul];clear hq30;by_cases hlt : xs.length ≤ k / 30
 ·have e : vl B30 xs / B30 ^ (k / 30) / 2 ^ (k % 30) = 0 := by
   rw [show vl B30 xs / B30 ^ (k / 30) = 0 from Nat.div_eq_of_lt ?_, Nat.zero_div];exact Nat.lt_of_lt_of_le (bV wx.1) (Nat.pow_le_pow_right (by decide) hlt)
  rw [e];clear e;rw [aA] at h;go_enter Tryz.func152, Tryz.ntmps152
  go_wp2
  go_ret
  exact ⟨_, rfl, Nn.zero _ _, Q.refl _, Nw.nil⟩
 ·rw [← gB (by decide) (by omega) wx.1];obtain ⟨ad, rfl, hbk, _⟩ := rx.at_ (k := 0) (by omega);have rz := rx.drop (k := k / 30) hc;rw [if_neg (by omega)] at rz;simp only [Option.map_some] at rz;have mz : ∀ d ∈ xs.drop (k / 30), d < B30 := fA wx.1;have hlz : (xs.drop (k / 30)).length = xs.length - k / 30 := (by rw [List.length_drop]);have hmk := nW (xs.length - k / 30) ((xs.length - k / 30 : Nat) : Int) rfl (by omega);rw [aA] at h;have HZ := Lib.hid hlz; clear hlz;have HE := Lib.hid (yD (k % 30) (by omega));have hf1 : 2 ^ (k % 30) ≤ 536870912 := by
   have h1 : 2 ^ (k % 30) ≤ 2 ^ 29 := Nat.pow_le_pow_right (by decide) (by omega);exact h1
  have hf0 : 0 < 2 ^ (k % 30) := Nat.pow_pos (by decide);have HG := Lib.hid (show B30 = 2 ^ (k % 30) * 2 ^ (30 - k % 30) by rw [← Nat.pow_add, show k % 30 + (30 - k % 30) = 30 by omega]; rfl);have hg1 : 2 ^ (30 - k % 30) ≤ 1073741824 := by
   have h1 : 2 ^ (30 - k % 30) ≤ 2 ^ 30 := Nat.pow_le_pow_right (by decide) (by omega);exact h1
  go_enter Tryz.func152, Tryz.ntmps152
  go_wp2_with fail
  rw [HE.out];clear HE hmk;have hfg : (1073741824 : Int) / ((2 ^ (k % 30) : Nat) : Int) = ((2 ^ (30 - k % 30) : Nat) : Int) := by
   have := HG.out;rw [aL] at this;rw [show (1073741824 : Int) = ((1073741824 : Nat) : Int) from rfl, this, ← Int.natCast_ediv, Nat.mul_div_cancel_left _ hf0]
  have HFG := Lib.hid hfg; clear hfg;generalize 2 ^ (k % 30) = f at *
  generalize 2 ^ (30 - k % 30) = g at *
  generalize ad.add (k / 30) = az at *
  generalize xs.drop (k / 30) = zl at *
  have hn : zl.length ≤ 1099511627776 := (by rw [HZ.out]; omega);have hn0 : 0 < xs.length - k / 30 := (by omega);have hn1 : xs.length - k / 30 ≤ 1099511627776 := (by omega);clear rx;generalize xs.length - k / 30 = n at *
  go_loopw [7] (fun iv w1 => ∃ (i : Nat) (out : List Nat), i ≤ n ∧ iv = .int .i64 (i : Int) ∧
   out.length = n ∧ (∀ d ∈ out, d < B30) ∧ f * vl B30 (out.take i) + zl.getD 0 0 % f = vl B30 (zl.take i) + B30 ^ i * (zl.getD i 0 % f) ∧
   Blk .i64 w1 w.heap.size 2 out ∧ Q w w1) (fun iv _ => n - (intOf iv).toNat)
  case atStart => exact ⟨0, List.replicate n 0, by omega, rfl, by simp, cZ (by decide), by simp [vl], Blk.made _ _ _, (Q.refl _).alloc _⟩
  case round =>
   obtain ⟨i, out, hi1, rfl, hl, ho, hv, hb, hq⟩ := hrel;have HV := Lib.hid hv; clear hv;have HL := Lib.hid hl; clear hl;by_cases hlt1 : i < n
   ·have hiz : i < zl.length := (by rw [HZ.out]; exact hlt1);obtain ⟨_, he, hbz, hcx⟩ := (rz.below hq).at_ hiz;cases he;have bx : zl[i] < 1073741824 := mz _ (List.getElem_mem _);have hio : i < out.length := (by rw [HL.out]; exact hlt1);have hcell := hb.cell hio;generalize out[i] = o at *
    clear hio;have hfz := hb.frozen i;have hgd : zl.getD i 0 = zl[i] := (by rw [List.getD_eq_getElem?_getD, List.getElem?_eq_getElem hiz]; rfl);have HD := Lib.hid hgd; clear hgd;generalize zl[i] = x at *
    clear hiz;have hxf : (x : Int) / f ≤ 1073741823 := by
     have := Nat.div_le_self x f;have e : ((x / f : Nat) : Int) = (x : Int) / f := Int.natCast_ediv _ _;omega
    have hxf0 : 0 ≤ (x : Int) / f := Int.ediv_nonneg (by omega) (by omega);have HXF := Lib.hid (show ((x / f : Nat) : Int) = (x : Int) / f from Int.natCast_ediv _ _);by_cases hlt2 : i + 1 < n
    ·have hiz : i + 1 < zl.length := (by rw [HZ.out]; exact hlt2);obtain ⟨_, he, hbz', hcx2⟩ := (rz.below hq).at_ hiz;cases he;have by_ : zl[i + 1] < 1073741824 := mz _ (List.getElem_mem _);have hgd : zl.getD (i + 1) 0 = zl[i + 1] := (by rw [List.getD_eq_getElem?_getD, List.getElem?_eq_getElem hiz]; rfl);have HD2 := Lib.hid hgd; clear hgd;generalize zl[i + 1] = y at *
     clear hiz;have hyf := Nat.mod_lt y hf0;have HYF := Lib.hid (show ((y % f : Nat) : Int) = (y : Int) % f from Int.natCast_emod _ _);have hyg : (y : Int) % f * g ≤ 1073741824 := by
      have h1 := Nat.mul_le_mul_right g (Nat.le_of_lt hyf);have h2 := HG.out;rw [aL] at h2;rw [← HYF.out, ← Int.natCast_mul];omega
     have hyg0 : 0 ≤ (y : Int) % f * g := Int.mul_nonneg (by rw [← HYF.out]; omega) (by omega);have hyi : (y : Int) % f < f := (by rw [← HYF.out]; omega);have hyi0 : 0 ≤ (y : Int) % f := (by rw [← HYF.out]; omega);have hD : (1073741824 : Int) / f ≤ 1073741824 := (by rw [HFG.out]; omega);have hD0 : 0 ≤ (1073741824 : Int) / f := (by rw [HFG.out]; omega);have hyD : (y : Int) % f * (1073741824 / f) ≤ 1073741824 := (by rw [HFG.out]; exact hyg);have hyD0 : 0 ≤ (y : Int) % f * (1073741824 / f) := (by rw [HFG.out]; exact hyg0);clear hyg hyg0;go_wp2
     have hb5 := hb.put i (x / f) (e := (x : Int) / f) HXF.out.symm;have hq5 := hq.setCell (p := ⟨w.heap.size, i, none⟩) (Nat.le_refl _) (.int .i64 ((x : Int) / f));generalize wr.setCell ⟨w.heap.size, i, none⟩ (.int .i64 ((x : Int) / f)) = w5 at *
     have hcx5 : w5.cell? (az.add (i + 1)) = some (.int .i64 (y : Int)) := by
      have h1 := (hq.cell (p := az.add (i + 1)) (by rw [eF]; exact hbz)).symm.trans hcx2;exact (hq5.cell (by rw [eF]; exact hbz)).trans h1
     have hc5 : w5.cell? ⟨w.heap.size, i, none⟩ = some (.int .i64 ((x : Int) / f)) := by
      rw [hb5.cell (by rw [List.length_set, HL.out]; exact hlt1)];simp [HXF.out]
     have hf5 := hb5.frozen i;clear hcx2 hcell hfz hcx;rw [aC7] at hcx5;go_region
     go_wp2
     have hE := HG.out;have hxg : x / f < g := by
      rw [Nat.div_lt_iff_lt_mul hf0, Nat.mul_comm, ← hE]; rw [aL]; exact bx
     have ho' : x / f + y % f * g < B30 := by
      have h1 : (y % f + 1) * g ≤ f * g := Nat.mul_le_mul_right g hyf;rw [Nat.add_mul, Nat.one_mul, ← hE] at h1;omega
     have hcast : (x : Int) / f + (y : Int) % f * (1073741824 / f) = ((x / f + y % f * g : Nat) : Int) := by
      rw [HFG.out, Int.natCast_add, Int.natCast_mul, HXF.out, HYF.out]
     refine ⟨⟨i + 1, (out.set i (x / f)).set i (x / f + y % f * g), by omega, by go_num, by rw [List.length_set, List.length_set, HL.out], bY (bY ho (by rw [aL]; have := Nat.div_le_self x f; omega)) ho', ?_, (hb5.put i _ hcast).drew, (hq5.setCell (Nat.le_refl _) _).drew⟩, by simp [intOf]; omega⟩;have hv := HV.out;rw [HD.out] at hv;rw [List.set_set, bK _ (by rw [HL.out]; omega), pK, HD.out, HD2.out];exact tT hE hv rfl
    ·have hD2 : zl.getD (i + 1) 0 = 0 := by
      rw [List.getD_eq_getElem?_getD, List.getElem?_eq_none (by rw [HZ.out]; omega)]; rfl
     go_wp2
     refine ⟨⟨i + 1, out.set i (x / f), by omega, by go_num, by rw [List.length_set, HL.out], bY ho (by rw [aL]; have := Nat.div_le_self x f; omega), ?_, hb.put i (x / f) HXF.out.symm, hq.setCell (Nat.le_refl _) _⟩, by simp [intOf]; omega⟩;have hv := HV.out;rw [HD.out] at hv;rw [bK _ (by rw [HL.out]; omega), pK, HD.out, hD2];exact tT (y := 0) HG.out hv (by simp)
   ·obtain rfl : i = n := (by omega);go_wp2_with fail
    refine (kX _ _ (w.heap.size + 1) _ _ _ HL.out (Nat.le_refl _) (by omega) (hb.rd (Nat.lt_succ_self _))).mono ?_;rintro e w2 ⟨k2, hk2, rfl, hnz, hv, rfl⟩;go_wp2
    go_ret
    refine ⟨_, rfl, Nn.of_blk hb hk2 (by rw [HL.out] at hk2; exact hk2) hnz ho ?_, hq, Nw.at_ (Nat.le_refl _)⟩;rw [hv];have h := HV.out;rw [List.take_of_length_le (by rw [HL.out]; omega), List.take_of_length_le (by rw [HZ.out]; omega), show zl.getD i 0 = 0 by rw [List.getD_eq_getElem?_getD, List.getElem?_eq_none (by rw [HZ.out]; omega)]; rfl, Nat.zero_mod, Nat.mul_zero, Nat.add_zero] at h;rw [← h, Nat.mul_add_div hf0, Nat.div_eq_of_lt (Nat.mod_lt _ hf0), Nat.add_zero]
theorem qR (x y : Value) (M N : Nat) (w : World) (hx : Nr w x M) (hy : Nr w y N) (hN : 0 < N) (lM : dg B30 M + 40 ≤ LIM) (lN : dg B30 N + 40 ≤ LIM) :
  Calls Tryz.prog 112 #[x, y] w fun e w' => ∃ u v, e = .returned (.tuple #[u, v]) ∧ Nr w' u (M / N) ∧ Nr w' v (M % N) ∧ Q w w' := by
 rcases Nat.lt_or_ge M N with hlt | hge
 ·have hc := fQ hlt;have HC := Lib.hid hc; clear hc;go_enter Tryz.func112, Tryz.ntmps112
  go_wp2_with fail
  refine (jR _ _ M N _ hx hy (by omega) (by omega)).mono ?_;rintro e w1 ⟨rfl, hq1⟩;rw [HC.out];go_wp2
  go_ret2
  rw [Nat.div_eq_of_lt hlt, Nat.mod_eq_of_lt hlt];exact ⟨_, _, rfl, Nn.zero _ _, hx.q hq1, hq1⟩
 ·have hc : 0 ≤ cmp M N := by
   unfold cmp; rw [if_neg (by omega)]; split <;> omega
  obtain ⟨k, hk⟩ : ∃ k, k = (30 - bl N % 30) % 30 := ⟨_, rfl⟩
  have hk30 : k < 30 := (by omega);have hki : (k : Int) = (30 - (bl N : Int) % 30) % 30 := (by omega);have HK := Lib.hid hki; clear hki hk;go_enter Tryz.func112, Tryz.ntmps112
  go_wp2_with fail
  refine (jR _ _ M N _ hx hy (by omega) (by omega)).mono ?_;rintro e w1 ⟨rfl, hq1⟩;have hx1 := hx.q hq1;have hy1 := hy.q hq1;go_wp2_with fail
  refine (aDK _ N _ hy1 (by omega)).mono ?_;rintro e w1 ⟨rfl, rfl⟩;go_wp2_with fail
  have hp1 : dg B30 (2 ^ k) ≤ 1 := by
   refine eD aF ?_;rw [Nat.pow_one];exact Nat.lt_of_le_of_lt (Nat.pow_le_pow_right (by decide) (show k ≤ 29 by omega)) (by decide)
  have l1 := dY aF M (2 ^ k);have l2 := dY aF N (2 ^ k);refine (uW _ M k _ _ hx1 (by have := HK.out; omega) (by omega)).mono ?_;rintro e w2 ⟨va, rfl, ha, hq2, -⟩;go_wp2_with fail
  refine (uW _ N k _ _ (hy1.q hq2) (by have := HK.out; omega) (by omega)).mono ?_;rintro e w3 ⟨vb, rfl, hb, hq3, -⟩;have ha3 := ha.q hq3;clear ha hx hy hx1 hy1;have hq := (hq1.trans hq2).trans hq3;clear hq1 hq2 hq3;have hf0 : 0 < 2 ^ k := Nat.pow_pos (by decide);have hV0 : 0 < N * 2 ^ k := Nat.mul_pos hN hf0;have hb3 := hb;obtain ⟨A, c, xs, rfl, hcx, rx, wx, hvx⟩ := ha3;obtain ⟨B, d, ys, rfl, hcy, ry, wy, hvy⟩ := hb;have lx := wx.len aF;have ly := wy.len aF;rw [hvx] at lx;rw [hvy] at ly;have hmk := nW xs.length (xs.length : Int) rfl (by omega);have lxs : xs.length + 30 ≤ 1099511627776 := (by have := aA; omega);have lys : ys.length + 30 ≤ 1099511627776 := (by have := aA; omega);have hys0 : 0 < ys.length := by
   rcases Nat.eq_zero_or_pos ys.length with h0 | h0
   ·rw [ly] at h0; have := aW aF h0; omega
   ·exact h0
  have HX := Lib.hid hvx; clear hvx;have HY := Lib.hid hvy; clear hvy;have LX := Lib.hid lx; clear lx;have LY := Lib.hid ly; clear ly;obtain ⟨i0, hi0, hz0, hz1, hz2⟩ := info_parts oZ;go_wp2
  clear hmk hb3 hc lM lN l1 l2 hp1
  go_loopw [9, 10] (fun rv iv w4 => ∃ (j R : Nat) (out : List Nat), j ≤ xs.length ∧ iv = .int .i64 ((j : Int) - 1) ∧ Nr w4 rv R ∧ R < N * 2 ^ k ∧
      vl B30 (xs.drop j) = vl B30 (out.drop j) * (N * 2 ^ k) + R ∧ out.take j = List.replicate j 0 ∧ out.length = xs.length ∧ (∀ d ∈ out, d < B30) ∧
      Blk .i64 w4 w3.heap.size 2 out ∧ Q w3 w4) (fun _ iv _ => (intOf iv + 1).toNat)
  case atStart =>
   exact ⟨xs.length, 0, List.replicate xs.length 0, by omega, rfl, Nn.zero _ _, hV0, by simp [vl], by simp, by simp, cZ (by decide), Blk.made _ _ _, (Q.refl _).alloc _⟩
  case round =>
   obtain ⟨j, R, out, hj, rfl, hr, hR, hv, htk, hl, ho, hbk, hq4⟩ := hrel;have HV := Lib.hid hv; clear hv;have HL := Lib.hid hl; clear hl;have HT := Lib.hid htk; clear htk;by_cases hlt : 0 < j
   ·obtain ⟨i, rfl⟩ : ∃ i, j = i + 1 := ⟨j - 1, by omega⟩
    rw [show ((i + 1 : Nat) : Int) - 1 = (i : Int) from by omega];obtain ⟨ad, rfl, hbx, hcx'⟩ := (rx.below hq4).at_ (k := i) (by omega);have bx : xs[i] < 1073741824 := wx.1 _ (List.getElem_mem _);have HD := Lib.hid (bS B30 (show i < xs.length by omega));generalize xs[i] = a at *
    obtain ⟨A2, c2, rs, rfl, hc2, rr, wr2, hvr⟩ := hr;have HR := Lib.hid hvr; clear hvr;have lrs : rs.length ≤ ys.length := by
     have := wr2.len aF;rw [HR.out] at this;rw [this, LY.out];exact aR aF (Nat.le_of_lt hR)
    go_wp2_with (at_builtin; go_loud (refine uE rfl _ _ _ rfl (w3.heap.size + 1) 2 i0 (.int .i64 0) 8 Tryz.underlying30 hi0 hz0 hz1 hz2 rfl _ 1 [a] rfl (aC9 _ _ _ a rfl hbk.lt) wr.heap.size A2 rs.length c2 rs rfl rfl (rr.alloc (Nat.le_refl _) _) (by unfold maxLen; omega) (by omega) (by have := hbk.lt; simp; omega) ?_); intro v5 w5 hown hg5 hat)
    obtain ⟨g2, cap2, rfl, hg2, hg2lt, hn2, hm2, hl2, hrd2⟩ := aAz hown (by omega);have hq5 : Q wr w5 := Q.grown ((Q.refl wr).alloc _) hg5 (fun k e => Nat.le_of_eq (Option.some.inj e));refine (kX _ _ w5.heap.size _ ([a] ++ rs) _ hl2 hn2 (by omega) hrd2).mono ?_;rintro e w6 ⟨k6, hk6, rfl, hnz6, hv6, rfl⟩;have hR0 : a + B30 * R < N * 2 ^ k * B30 := aBB (by rw [aL]; exact bx) hR;have hr6 : Nr w5 (.slice (some ⟨g2, 0, none⟩) k6 cap2) (a + B30 * R) := by
     refine ⟨some ⟨g2, 0, none⟩, cap2, ([a] ++ rs).take k6, ?_, ?_, hrd2.take k6, ⟨aI ?_, hnz6⟩, ?_⟩
     ·rw [List.length_take, Nat.min_eq_left hk6]
     ·rw [List.length_take, Nat.min_eq_left hk6]; omega
     ·intro d hd;simp only [List.singleton_append, List.mem_cons] at hd;rcases hd with rfl | hd
      ·rw [aL]; exact bx
      ·exact wr2.1 d hd
     ·rw [hv6, List.singleton_append, bX, HR.out]
    have hnw6 : Nw (w3.heap.size + 1) (.slice (some ⟨g2, 0, none⟩) k6 cap2) := Nw.at_ hg2;generalize Value.slice (some ⟨g2, 0, none⟩) k6 cap2 = v6 at *
    have hbk5 := hbk.q hq5;have hq35 := hq4.trans hq5;clear hown hg5 hat hrd2 hbk hq4 hq5;have ho0 : out[i]? = some 0 := by
     have h1 : (out.take (i + 1))[i]? = some 0 := by rw [HT.out]; simp
     rwa [List.getElem?_take_of_lt (Nat.lt_succ_self _)] at h1
    have hset0 : out.set i 0 = out := by
     obtain ⟨hi, he⟩ := List.getElem?_eq_some_iff.1 ho0;rw [← he, List.set_getElem_self]
    have HS := Lib.hid hset0; clear hset0;have HO := Lib.hid ho0; clear ho0;go_wp2
    obtain ⟨wo, rfl⟩ : ∃ wo : World, wo = w5 := ⟨_, rfl⟩
    go_loopg [9] (a + B30 * R) (fun gk rv w7 => ∃ o, Nr w7 rv gk ∧ Nw (w3.heap.size + 1) rv ∧ o * (N * 2 ^ k) + gk = a + B30 * R ∧ Blk .i64 w7 w3.heap.size 2 (out.set i o) ∧ Q w3 w7)
    case atStart => exact ⟨0, hr6, hnw6, by omega, by rw [HS.out]; exact hbk5, hq35⟩
    case round =>
     obtain ⟨w7, rfl⟩ : ∃ w7 : World, w7 = wr := ⟨_, rfl⟩
     obtain ⟨o, hrr, hnw, hsum, hbk7, hq7⟩ := hrel;have HSUM := Lib.hid hsum; clear hsum;have ho1 : o < B30 := wB HSUM.out hR0;have hb7 : Nr w7 (.slice B ys.length d) (N * 2 ^ k) := ⟨B, d, ys, rfl, hcy, ry.q hq7, wy, HY.out⟩
     have hgk : dg B30 gk ≤ ys.length + 1 := aDY aF HSUM.out hR0 LY.out;rcases Nat.lt_or_ge gk (N * 2 ^ k) with hlt8 | hge8
     ·have HC := Lib.hid (fQ hlt8);go_wp2_with fail
      refine (jR _ _ gk (N * 2 ^ k) _ hrr hb7 (by rw [aA]; omega) (by rw [← LY.out, aA]; omega)).mono ?_;rintro e w8 ⟨rfl, hq8⟩;rw [HC.out];go_wp2
      refine ⟨⟨i, gk, out.set i o, by omega, rfl, hrr.q hq8, hlt8, ?_, ?_, by rw [List.length_set, HL.out], bY ho ho1, hbk7.q hq8, hq7.trans hq8⟩, by simp [intOf]⟩
      ·have hi : i < out.length := (by rw [HL.out]; omega);rw [HD.out, HV.out, bS B30 (ds := out.set i o) (j := i) (by rw [List.length_set]; exact hi), List.getElem_set_self, drop_set (by omega)];exact sK HSUM.out
      ·rw [List.take_set_of_le (Nat.le_refl _)];have h1 := congrArg (List.take i) HT.out;rw [List.take_take, Nat.min_eq_left (by omega), List.take_replicate, Nat.min_eq_left (by omega)] at h1;exact h1
     ·have hc : 0 ≤ cmp gk (N * 2 ^ k) := by
       unfold cmp; rw [if_neg (by omega)]; split <;> omega
      go_wp2_with fail
      refine (jR _ _ gk (N * 2 ^ k) _ hrr hb7 (by rw [aA]; omega) (by rw [← LY.out, aA]; omega)).mono ?_;rintro e w8 ⟨rfl, hq8⟩;generalize cmp gk (N * 2 ^ k) = cv at *
      have hrr8 := hrr.q hq8;have hb8 := hb7.q hq8;obtain ⟨A7, c7, r7, rfl, hc7, rr7, wr7, hv7⟩ := hrr8;have l7 := wr7.len aF;rw [hv7] at l7;have HV7 := Lib.hid hv7;have l7a : ys.length ≤ r7.length := (by rw [l7, LY.out]; exact aR aF hge8);have l7b : r7.length ≤ ys.length + 1 := (by omega);have lgk : dg B30 gk + 1 ≤ LIM := (by rw [aA]; omega);clear hgk l7;have hn1 : ys.length - 1 < r7.length := (by omega);have hn2 : ys.length - 1 < ys.length := (by omega);obtain ⟨a7, rfl, hba7, hca7⟩ := rr7.at_ hn1;obtain ⟨a8, rfl, hba8, hca8⟩ := (ry.below (hq7.trans hq8)).at_ hn2;have bt7 : r7[ys.length - 1] < 1073741824 := wr7.1 _ (List.getElem_mem _);have bt8 : ys[ys.length - 1] < 1073741824 := wy.1 _ (List.getElem_mem _);have ebt : ys[ys.length - 1] = N * 2 ^ k / B30 ^ (ys.length - 1) := by
       rw [← HY.out, ← gB (by decide) (by omega) wy.1];exact (drop_one (by omega)).symm
      have HBT := Lib.hid ebt; clear ebt;have hVd : N * 2 ^ k / B30 ^ (ys.length - 1) < 1073741824 := (by rw [← HBT.out]; exact bt8);have hP : 0 < B30 ^ (ys.length - 1) := Nat.pow_pos (by decide);have HG := aCR (R := gk) (V := N * 2 ^ k) hP;have hnw7 := hnw a7 r7.length c7 rfl;rcases Nat.lt_or_ge ys.length r7.length with h8 | h8
      case' inl =>
       obtain ⟨a9, e9, hba9, hca9⟩ := rr7.at_ h8;cases e9;have bt9 : r7[ys.length] < 1073741824 := wr7.1 _ (List.getElem_mem _);have etop : r7[ys.length - 1] + B30 * r7[ys.length] = gk / B30 ^ (ys.length - 1) := by
        rw [← HV7.out, ← gB (by decide) (by omega) wr7.1, oC (n := ys.length - 1) (by omega)];simp only [show ys.length - 1 + 1 = ys.length by omega]
       rw [← etop, ← HBT.out] at HG;have hdq : ((r7[ys.length - 1] : Int) + (r7[ys.length] : Int) * 1073741824) / ((ys[ys.length - 1] : Int) + 1) = (((r7[ys.length - 1] + B30 * r7[ys.length]) / (ys[ys.length - 1] + 1) : Nat) : Int) := by
        rw [aL, Int.natCast_ediv, Int.natCast_add, Int.natCast_add, Int.natCast_mul, Int.mul_comm]; rfl
       generalize (r7[ys.length - 1] + B30 * r7[ys.length]) / (ys[ys.length - 1] + 1) = dq at *
       clear etop;generalize r7[ys.length] = t2 at *
      case' inr =>
       have etop : r7[ys.length - 1] = gk / B30 ^ (ys.length - 1) := by
        rw [← HV7.out, ← gB (by decide) (by omega) wr7.1];exact (drop_one (by omega)).symm
       rw [← etop, ← HBT.out] at HG;have hdq : (r7[ys.length - 1] : Int) / ((ys[ys.length - 1] : Int) + 1) = ((r7[ys.length - 1] / (ys[ys.length - 1] + 1) : Nat) : Int) := by
        rw [Int.natCast_ediv, Int.natCast_add]; rfl
       generalize r7[ys.length - 1] / (ys[ys.length - 1] + 1) = dq at *
       clear etop
      all_goals
       clear HBT hVd;generalize r7[ys.length - 1] = t1 at *
       generalize ys[ys.length - 1] = bt at *
       have hcq := (hbk7.q hq8).cell (i := i) (by rw [List.length_set, HL.out]; omega);rw [List.getElem_set_self] at hcq;have hfq := (hbk7.q hq8).frozen i;have hd : ∃ d : Nat, 1 ≤ d ∧ d * (N * 2 ^ k) ≤ gk ∧ (dq = 0 ∧ d = 1 ∨ 1 ≤ dq ∧ d = dq) := by
        rcases Nat.eq_zero_or_pos dq with h0 | h0
        ·exact ⟨1, Nat.le_refl _, by omega, Or.inl ⟨h0, rfl⟩⟩
        ·exact ⟨dq, h0, HG, Or.inr ⟨h0, rfl⟩⟩
       obtain ⟨d, hd1, hdV, hdq2⟩ := hd;have hob : o + d < B30 := wB (g := gk - d * (N * 2 ^ k)) (by rw [Nat.add_mul]; have := HSUM.out; omega) hR0;have ho3 : o < 1073741824 := (by rw [aL] at ho1; exact ho1);have hd3 : d < 1073741824 := (by rw [aL] at hob; omega);have hQ9 : ∀ u, Q w3 (w8.setCell ⟨w3.heap.size, i, none⟩ u) := fun u => (hq7.trans hq8).setCell (Nat.le_refl _) u;have hR9 : ∀ u, Nr (w8.setCell ⟨w3.heap.size, i, none⟩ u) (.slice (some a7) r7.length c7) gk := fun u =>
        ⟨some a7, c7, r7, rfl, hc7, (fun hn => by
         obtain ⟨ad, e, hb, hc, cs9, fr9, ht9⟩ := rr7 hn;cases e;refine ⟨a7, rfl, by simpa [World.setCell] using hb, fun j d hd => ?_, cs9, fr9, (Below.heap_setCell _ _ _ _ (by simp; omega)).trans ht9⟩;rw [World.cell?_setCell_other _ _ _ _ (by intro e; have := congrArg Addr.block e; rw [eF] at this; simp at this; omega)];exact hc j d hd), wr7, HV7.out⟩
       have hB9 : ∀ u : Int, u = ((o + d : Nat) : Int) → Blk .i64 (w8.setCell ⟨w3.heap.size, i, none⟩ (.int .i64 u)) w3.heap.size 2 (out.set i (o + d)) := fun u hu => by
        have h := (hbk7.q hq8).put i (o + d) hu
        rwa [List.set_set] at h
       have hsum2 : (o + d) * (N * 2 ^ k) + (gk - N * 2 ^ k * d) = a + B30 * R := by
        rw [Nat.add_mul, Nat.mul_comm (N * 2 ^ k) d]; have := HSUM.out; omega
       have HS2 := Lib.hid hsum2; clear hsum2;have hle9 : N * 2 ^ k * d ≤ gk := (by rw [Nat.mul_comm]; exact hdV);have ldd : dg B30 d ≤ 1 := eD aF (by rw [Nat.pow_one, aL]; omega);have lV : dg B30 (N * 2 ^ k) + dg B30 d + 2 ≤ LIM := (by rw [← LY.out, aA]; omega);have hdq3 : dq < 1073741824 := (by omega);rcases hdq2 with ⟨rfl, hdd⟩ | ⟨hdq1, hdd⟩
      all_goals
       have HDD := Lib.hid hdd; clear hdd;go_wp2_with fail
       refine (rT _ d _ (by have := HDD.out; omega) (by omega)).mono ?_;rintro e w10 ⟨vs, rfl, hs, hq10, -⟩;have hR10 := (hR9 _).q hq10;have hB10 := (hB9 _ (by have := HDD.out; omega)).q hq10;have hq310 := (hQ9 _).trans hq10;clear hR9 hB9 hQ9 hq10;go_wp2_with fail
       refine (aAV _ _ (N * 2 ^ k) d _ ⟨some a8, _, ys, rfl, hcy, ry.q hq310, wy, HY.out⟩ hs lV).mono ?_;rintro e w11 ⟨vt, rfl, ht, hq11, -⟩;go_wp2_with fail
       refine (vW _ _ gk (N * 2 ^ k * d) _ (hR10.q hq11) ht hle9 lgk).mono ?_;rintro e w12 ⟨vm, rfl, hm, hq12, hnwm⟩;have hB12 := hB10.q (hq11.trans hq12);have hq312 := hq310.trans (hq11.trans hq12);have hnw12 : Nw (w3.heap.size + 1) vm := hnwm.more (by have := hB10.lt; have := hq11.size; omega);clear hB10 hq310 hR10 ht hs hq11 hq12 hnwm hcq hfq hca7 hca8;go_wp2_with fail
       go_roundg (gk - N * 2 ^ k * d)
       case measure =>
        have : 1 * (N * 2 ^ k) ≤ d * (N * 2 ^ k) := Nat.mul_le_mul_right _ hd1;rw [Nat.mul_comm d] at this;omega
       case rel => exact ⟨o + d, hm, hnw12, HS2.out, hB12, hq312⟩
   ·obtain rfl : j = 0 := (by omega);rw [show ((0 : Nat) : Int) - 1 = -1 from by omega];go_wp2_with fail
    refine (kX _ _ (w3.heap.size + 1) _ _ _ HL.out (Nat.le_refl _) (by omega) (hbk.rd (Nat.lt_succ_self _))).mono ?_;rintro e w5 ⟨k5, hk5, rfl, hnz, hvq, rfl⟩;have hfin := HV.out;rw [List.drop_zero, List.drop_zero, HX.out] at hfin;obtain ⟨hq1, hq2, hq3⟩ := aA7 hf0 hfin hR;have hRlen : dg B30 R ≤ LIM := by
     have h1 := aR aF (Nat.le_of_lt hR);rw [← LY.out] at h1;rw [aA]; omega
    have hqv : Nr wr (.slice (some ⟨w3.heap.size, 0, none⟩) k5 xs.length) (M / N) := by
     refine Nn.of_blk hbk hk5 (by rw [HL.out] at hk5; exact hk5) hnz ho ?_;rw [hvq, hq1]
    have HQ2 := Lib.hid hq2; clear hq1 hq2 hq3 hfin;go_wp2_with fail
    refine (nX _ R k _ _ hr (by have := HK.out; omega) hRlen (by omega)).mono ?_;rintro e w6 ⟨vr, rfl, hvr, hq6, -⟩;go_wp2_with fail
    go_ret2
    exact ⟨_, _, rfl, hqv.q hq6, by rw [HQ2.out]; exact hvr, (hq.trans hq4).trans hq6⟩
theorem qU (x y : Value) (M N : Nat) (w : World) (hx : Nr w x M) (hy : Nr w y N) (hN : 0 < N) (lM : 31 * dg B30 M + 80 ≤ LIM) (lN : 31 * dg B30 N + 80 ≤ LIM) :
  Calls Tryz.prog 84 #[x, y] w fun e w' => ∃ v, e = .returned v ∧ Nr w' v (Nat.gcd M N) ∧ Q w w' := by
 have HG0 := Lib.hid (lK M N);have hR : M % N < N := Nat.mod_lt _ hN;go_enter Tryz.func84, Tryz.ntmps84
 go_wp2_with fail
 refine (qR _ _ M N _ hx hy hN (by omega) (by omega)).mono ?_;rintro e w1 ⟨vq, vr, rfl, hq, hr, hq1⟩;have hy1 := hy.q hq1;have lR : 31 * dg B30 (M % N) + 80 ≤ LIM := by have := aR aF (Nat.le_of_lt hR); omega
 have HE := Lib.hid (rfl : M % N = M % N);clear hq hx;generalize M % N = R at *
 obtain ⟨A, c, rs, rfl, hc, rr, wr1, hvr⟩ := hr;have lr := wr1.len aF;rw [hvr] at lr;have HR := Lib.hid hvr; clear hvr;rcases Nat.eq_zero_or_pos R with h0 | h0
 ·subst h0;rw [aQ] at lr;have e0 : ((rs.length : Int) == 0) = true := (by simp [lr]);clear lr;go_wp2_with fail
  go_ret
  rw [← HG0.out, Nat.gcd_zero_left];exact ⟨_, rfl, hy1, hq1⟩
 ·have e0 : ((rs.length : Int) == 0) = false := by
   have : dg B30 R ≠ 0 := fun h => (by have := aW aF h; omega);exact beq_eq_false_iff_ne.2 (by omega)
  have hrn : Nr w1 (.slice A rs.length c) R := ⟨A, c, rs, rfl, hc, rr, wr1, HR.out⟩
  clear rr wr1 lr;go_wp2_with fail
  refine (rU _ R _ hrn (by omega) h0).mono ?_;rintro e w2 ⟨rfl, rfl⟩;go_wp2_with fail
  refine (rU _ N _ hy1 (by omega) hN).mono ?_;rintro e w2 ⟨rfl, rfl⟩;have hGP := iT h0 hN;rw [HG0.out] at hGP;have HGP := Lib.hid hGP; clear hGP HG0 HE;have oR := (eQ h0).2;have oN := (eQ hN).2;have tR : tz R ≤ 30 * dg B30 R := Nat.le_trans (Nat.le_of_lt (fK h0)) (gM 30 R (by decide));have tN : tz N ≤ 30 * dg B30 N := Nat.le_trans (Nat.le_of_lt (fK hN)) (gM 30 N (by decide));have lim := aA;have dR := aR aF (Nat.div_le_self R (2 ^ tz R));have dN := aR aF (Nat.div_le_self N (2 ^ tz N));have LM := Lib.hid lim; clear lim;have tR2 : tz R ≤ 4611686018427387904 := (by have := LM.out; omega);have tN2 : tz N ≤ 4611686018427387904 := (by have := LM.out; omega);go_wp2_with fail
  refine (nX _ R (tz R) _ _ hrn rfl (by omega) tR2).mono ?_;rintro e w2 ⟨va, rfl, ha, hq2, -⟩;go_wp2_with fail
  refine (nX _ N (tz N) _ _ (hy1.q hq2) rfl (by omega) tN2).mono ?_;rintro e w3 ⟨vb, rfl, hb, hq3, -⟩;have ha3 := ha.q hq3;have hq13 := (hq1.trans hq2).trans hq3;clear ha hq1 hq2 hq3 hrn hy1 hy;have hml : min (tz R) (tz N) ≤ tz N := Nat.min_le_right _ _;obtain ⟨L, hLe⟩ : ∃ L, L = max (dg B30 R) (dg B30 N) := ⟨_, rfl⟩
  have lL : 31 * L + 80 ≤ LIM := (by omega);have dR : dg B30 (R / 2 ^ tz R) ≤ L := (by omega);have dN : dg B30 (N / 2 ^ tz N) ≤ L := (by omega);have tmin : min (tz R) (tz N) ≤ 30 * L := (by omega);clear hLe lM lN lR hR e0;generalize R / 2 ^ tz R = a0 at *
  generalize N / 2 ^ tz N = b0 at *
  generalize tz R = ti at *
  generalize tz N = tk at *
  have HTM := Lib.hid tmin;clear tmin hml;go_wp2_with fail
  go_loopg [0, 1] (a0 + b0) (fun gk va vb w4 => ∃ a b, Nr w4 va a ∧ Nr w4 vb b ∧ a % 2 = 1 ∧ b % 2 = 1 ∧ Nat.gcd a b = Nat.gcd a0 b0 ∧ gk = a + b ∧ dg B30 a ≤ L ∧ dg B30 b ≤ L ∧ Q w3 w4)
  case atStart => exact ⟨a0, b0, ha3, hb, oR, oN, rfl, rfl, dR, dN, Q.refl _⟩
  case round =>
   obtain ⟨w4, rfl⟩ : ∃ w4 : World, w4 = wr := ⟨_, rfl⟩
   obtain ⟨a, b, hva, hvb, oa, ob, hgcd, hgk, la, lb, hq4⟩ := hrel;have HOA := Lib.hid oa;have HOB := Lib.hid ob;have HGC := Lib.hid hgcd;have HGK := Lib.hid hgk;clear oa ob hgcd hgk oR oN;obtain ⟨A4, c4, da, rfl, hc4, ra4, wa4, hv4⟩ := hva;obtain ⟨B4, d4, db, rfl, hd4, rb4, wb4, hw4⟩ := hvb;have lea := wa4.len aF;have leb := wb4.len aF;rw [hv4] at lea;rw [hw4] at leb;have hna : Nr w4 (.slice A4 da.length c4) a := ⟨A4, c4, da, rfl, hc4, ra4, wa4, hv4⟩
   have hnb : Nr w4 (.slice B4 db.length d4) b := ⟨B4, d4, db, rfl, hd4, rb4, wb4, hw4⟩
   have HLA := Lib.hid lea; have HLB := Lib.hid leb;have hcase : (da.length ≤ 2 ∧ db.length ≤ 2) ∨ 2 < da.length ∨ da.length ≤ 2 ∧ 2 < db.length := (by omega);clear lea leb hv4 hw4 ra4 rb4 wa4 wb4;rcases hcase with ⟨h2, h2b⟩ | h2 | ⟨h2, h2b⟩
   ·have bA : dg B30 a ≤ 2 := (by rw [← HLA.out]; exact h2);have bB : dg B30 b ≤ 2 := (by rw [← HLB.out]; exact h2b);go_wp2_with fail
    refine (aAW _ a _ hna bA).mono ?_;rintro e w5 ⟨rfl, rfl⟩;go_wp2_with fail
    refine (aAW _ b _ hnb bB).mono ?_;rintro e w5 ⟨rfl, rfl⟩;have p2 : B30 ^ 2 = 1152921504606846976 := (by decide);have ba : a < 1152921504606846976 := (by have := (aD aF a 2).1 bA; rw [p2] at this; exact this);have bb : b < 1152921504606846976 := (by have := (aD aF b 2).1 bB; rw [p2] at this; exact this);clear p2 bA bB;go_wp2_with fail
    obtain ⟨wo, rfl⟩ : ∃ wo : World, wo = w4 := ⟨_, rfl⟩
    go_loopw [8, 9] (fun xv yv w5 => ∃ p q : Nat, xv = .int .i64 (p : Int) ∧ yv = .int .i64 (q : Int) ∧ p < 1152921504606846976 ∧ q < 1152921504606846976 ∧ Nat.gcd p q = Nat.gcd a0 b0 ∧ ∃ m, w5 = wo.drewN m) (fun _ yv _ => (intOf yv).toNat)
    case atStart => exact ⟨a, b, rfl, rfl, ba, bb, HGC.out, 0, rfl⟩
    case round =>
     obtain ⟨p, q, rfl, rfl, hp, hq, hpq, m, rfl⟩ := hrel;have HPQ := Lib.hid hpq; clear hpq;rcases Nat.eq_zero_or_pos q with h0 | h0
     ·subst h0;have hpe : p = Nat.gcd a0 b0 := (by have := HPQ.out; rwa [Nat.gcd_zero_right] at this);have HP := Lib.hid hpe; clear hpe;go_wp2_with fail
      refine (rT _ p _ rfl (by omega)).mono ?_;rintro e w6 ⟨vs, rfl, hs, hq6, -⟩;have hqq : Q w3 w6 := (hq4.drewN m).trans hq6;have ldp : dg B30 p ≤ 2 := eD aF (by rw [show B30 ^ 2 = 1152921504606846976 by decide]; exact hp);have lim1 : dg B30 p + min ti tk + 2 ≤ LIM := (by have := HTM.out; omega);rcases Nat.lt_trichotomy ti tk with ht | rfl | ht;all_goals
       go_wp2_with fail
       refine (uW _ p (min _ _) _ _ hs (by omega) lim1).mono ?_;rintro e w7 ⟨vf, rfl, hf, hq7, -⟩;go_wp2_with fail
       go_ret
       refine ⟨_, rfl, ?_, (hq13.trans hqq).trans hq7⟩;rw [HGP.out, ← HP.out, Nat.mul_comm];exact hf
     ·have hne : ((q : Int) != 0) = true := (by simp; omega);have hpm : p % q < q := Nat.mod_lt _ h0;have hgm : Nat.gcd q (p % q) = Nat.gcd a0 b0 := (by rw [Nat.gcd_comm, lK]; exact HPQ.out);have HGM := Lib.hid hgm; clear hgm;go_wp2_with fail
      go_quiet (fail)
      go_wp2_with fail
      exact ⟨⟨q, p % q, rfl, congrArg (Value.int _) (Int.natCast_emod _ _).symm, hq, by omega, HGM.out, _, by rw [World.drewN_drewN]⟩, by simp [intOf]; omega⟩
   all_goals
    have step : ∀ (p q : Nat) (vp vq2 : Value) (w5 : World), q < p → p % 2 = 1 → q % 2 = 1 → Nat.gcd p q = Nat.gcd a0 b0 → dg B30 p ≤ L → dg B30 q ≤ L → Nr w5 vp p → Nr w5 vq2 q →
        Nat.gcd ((p - q) / 2 ^ tz (p - q)) q = Nat.gcd a0 b0 ∧ ((p - q) / 2 ^ tz (p - q)) % 2 = 1 ∧ (p - q) / 2 ^ tz (p - q) < p ∧ dg B30 ((p - q) / 2 ^ tz (p - q)) ≤ L ∧ dg B30 (p - q) ≤ L ∧ tz (p - q) ≤ 4611686018427387904 := by
     intro p q vp vq2 w5 h1 h2 h3 h4 h5 h6 _ _;have hst := sO h2 h3 h1;have ldm := aR aF (Nat.sub_le p q);have ldd := aR aF (Nat.div_le_self (p - q) (2 ^ tz (p - q)));refine ⟨hst.1.trans h4, hst.2.1, hst.2.2, by omega, by omega, ?_⟩;have h7 := fK (show 0 < p - q by omega);have h8 := gM 30 (p - q) (by decide);change bl (p - q) ≤ 30 * dg B30 (p - q) at h8;have := LM.out;omega
    rcases Nat.lt_trichotomy a b with hab | hab | hab
    ·have HC := Lib.hid (fQ hab);obtain ⟨s1, s2, s3, s4, s5, s6⟩ := step b a _ _ w4 hab HOB.out HOA.out (by rw [Nat.gcd_comm]; exact HGC.out) lb la hnb hna;have S1 := Lib.hid s1; have S2 := Lib.hid s2; clear s1 s2 step;go_wp2_with fail
     refine (jR _ _ a b _ hna hnb (by omega) (by omega)).mono ?_;rintro e w5 ⟨rfl, hq5⟩;rw [HC.out];go_wp2_with fail
     refine (vW _ _ b a _ (hnb.q hq5) (hna.q hq5) (by omega) (by omega)).mono ?_;rintro e w6 ⟨vm, rfl, hm, hq6, -⟩;go_wp2_with fail
     refine (rU _ (b - a) _ hm (by omega) (by omega)).mono ?_;rintro e w7 ⟨rfl, rfl⟩;go_wp2_with fail
     refine (nX _ (b - a) (tz (b - a)) _ _ hm rfl (by omega) s6).mono ?_;rintro e w8 ⟨vn, rfl, hn, hq8, -⟩;have hqq := (hq5.trans hq6).trans hq8;go_wp2_with fail
     go_roundg ((b - a) / 2 ^ tz (b - a) + a)
     case measure => have := HGK.out; omega
     case rel => exact ⟨_, a, hn, hna.q hqq, S2.out, HOA.out, S1.out, rfl, s4, la, hq4.trans hqq⟩
    ·subst hab;have HC := Lib.hid (cmp_eq a);have hg1 : a = Nat.gcd a0 b0 := (by have := HGC.out; rwa [Nat.gcd_self] at this);have HP := Lib.hid hg1;clear step hg1;have lim1 : dg B30 a + min ti tk + 2 ≤ LIM := (by have := HTM.out; omega);go_wp2_with fail
     refine (jR _ _ a a _ hna hnb (by omega) (by omega)).mono ?_;rintro e w5 ⟨rfl, hq5⟩;rw [HC.out];have hna5 := hna.q hq5;rcases Nat.lt_trichotomy ti tk with ht | rfl | ht;all_goals
      go_wp2_with fail
      refine (uW _ a (min _ _) _ _ hna5 (by omega) lim1).mono ?_;rintro e w7 ⟨vf, rfl, hf, hq7, -⟩;go_wp2_with fail
      go_ret
      refine ⟨_, rfl, ?_, (hq13.trans (hq4.trans hq5)).trans hq7⟩;rw [HGP.out, ← HP.out, Nat.mul_comm];exact hf
    ·have HC := Lib.hid (gT hab);obtain ⟨s1, s2, s3, s4, s5, s6⟩ := step a b _ _ w4 hab HOA.out HOB.out HGC.out la lb hna hnb;have S1 := Lib.hid s1; have S2 := Lib.hid s2; clear s1 s2 step;go_wp2_with fail
     refine (jR _ _ a b _ hna hnb (by omega) (by omega)).mono ?_;rintro e w5 ⟨rfl, hq5⟩;rw [HC.out];go_wp2_with fail
     refine (vW _ _ a b _ (hna.q hq5) (hnb.q hq5) (by omega) (by omega)).mono ?_;rintro e w6 ⟨vm, rfl, hm, hq6, -⟩;go_wp2_with fail
     refine (rU _ (a - b) _ hm (by omega) (by omega)).mono ?_;rintro e w7 ⟨rfl, rfl⟩;go_wp2_with fail
     refine (nX _ (a - b) (tz (a - b)) _ _ hm rfl (by omega) s6).mono ?_;rintro e w8 ⟨vn, rfl, hn, hq8, -⟩;have hqq := (hq5.trans hq6).trans hq8;go_wp2_with fail
     go_roundg ((a - b) / 2 ^ tz (a - b) + b)
     case measure => have := HGK.out; omega
     case rel => exact ⟨_, b, hn, hnb.q hqq, S2.out, HOB.out, S1.out, rfl, s4, lb, hq4.trans hqq⟩
end Go.Proofs.YtgpacgadpnpjjaaGreatDoor
namespace Go.Proofs.YtgpacgadpnpjjaaGreatDoor.K
open Go.RowKit
open Ma Me
theorem gU (x : Value) (N : Nat) (b : Bool) (w : World) (hx : Nr w x N) (hb : decide (N = 1) = b) : Calls Tryz.prog 83 #[x] w fun e w' => e = .returned (.bool b) ∧ w = w' := by
 subst hb;exact aFI x N w hx
theorem aCK {s : Int} {M N : Nat} {q : Rat} (hq : q * (N : Rat) = (s : Rat) * (M : Rat)) (hN : s ≠ 0 → 0 < N) (h : s = 0 ∨ M = 0) (h0 : N = 0 → q = 0) : q = 0 := by
 rcases Nat.eq_zero_or_pos N with h1 | h1
 ·exact h0 h1
 have e : q * (N : Rat) = 0 := by
  rw [hq];rcases h with rfl | rfl
  ·exact Rat.zero_mul _
  ·exact Rat.mul_zero _
 rcases Rat.mul_eq_zero.1 e with h | h
 ·exact h
 ·have : ((N : Int) : Rat) = ((0 : Int) : Rat) := h;have := Rat.intCast_inj.1 this;omega
theorem aBx {s : Int} {M N : Nat} {q : Rat} (hs : s = -1 ∨ s = 1) (hM : 0 < M) (hN : 0 < N) (hq : q * (N : Rat) = (s : Rat) * (M : Rat)) :
  s = sn q ∧ q.num.natAbs = M / Nat.gcd M N ∧ q.den = N / Nat.gcd M N := by
 obtain ⟨d, hd⟩ : ∃ d, d = Nat.gcd M N := ⟨_, rfl⟩
 have hd0 : 0 < d := by rw [hd]; exact Nat.gcd_pos_of_pos_right _ hN
 obtain ⟨m, hm⟩ : d ∣ M := by rw [hd]; exact Nat.gcd_dvd_left _ _
 obtain ⟨n, hn⟩ : d ∣ N := by rw [hd]; exact Nat.gcd_dvd_right _ _
 have hm1 : M / d = m := by rw [hm]; exact Nat.mul_div_cancel_left _ hd0
 have hn1 : N / d = n := by rw [hn]; exact Nat.mul_div_cancel_left _ hd0
 have hc : Nat.Coprime m n := by
  have := Nat.coprime_div_gcd_div_gcd (m := M) (n := N) (by rw [← hd]; exact hd0)
  rwa [← hd, hm1, hn1] at this
 have hn0 : 0 < n := by
  rcases Nat.eq_zero_or_pos n with h | h
  ·rw [h] at hn; omega
  ·exact h
 have hm0 : 0 < m := by
  rcases Nat.eq_zero_or_pos m with h | h
  ·rw [h] at hm; omega
  ·exact h
 have key : (s * (m : Int)) * q.den = q.num * n := by
  have h1 : q * (N : Rat) = (s : Rat) * (M : Rat) := hq;have h3 : q * (q.den : Rat) = (q.num : Rat) := (rF q).symm;have h4 : (q.num : Rat) * (N : Rat) = (s : Rat) * (M : Rat) * (q.den : Rat) := by
   rw [← h3, ← h1]; grind
  have h5 : ((q.num * (N : Int) : Int) : Rat) = ((s * (M : Int) * (q.den : Int) : Int) : Rat) := by
   rw [Rat.intCast_mul, Rat.intCast_mul, Rat.intCast_mul]; exact h4
  have h6 := Rat.intCast_inj.1 h5;rw [hm, hn] at h6;have h7 : (d : Int) * (q.num * n) = (d : Int) * ((s * (m : Int)) * q.den) := by
   simp only [Int.natCast_mul] at h6;rw [show (d : Int) * (q.num * n) = q.num * ((d : Int) * n) from by grind, h6]; grind
  exact (Int.eq_of_mul_eq_mul_left (by omega) h7).symm
 have hnat : (s * (m : Int)).natAbs = m := by rcases hs with rfl | rfl <;> simp
 obtain ⟨h1, h2⟩ := yE (q := q) (a := s * (m : Int)) (b := n) hn0 (by rw [hnat]; exact hc) key;rw [← hd, hm1, hn1];refine ⟨?_, by rw [h1, hnat], h2⟩;rw [uF, h1];rcases hs with rfl | rfl
 ·rw [Int.sign_eq_neg_one_of_neg]; omega
 ·rw [Int.sign_eq_one_of_pos]; omega
theorem jS {w a : World} {g : Nat} {row : List Value} {A1 A2 : Option Addr} {n1 c1 n2 c2 M N : Nat} {s : Int} {q : Rat} (hR : Bx w g 32 row) (hl : row.length = 3) (hrow : ∀ x ∈ row, ∀ z, x ≠ .int .u64 z) (hx : Nr w (.slice A1 n1 c1) M) (hy : Nr w (.slice A2 n2 c2) N) (hs : s = sn q) (hM : q.num.natAbs = M) (hN : q.den = N) (hQ : Q a w) (hg : a.heap.size ≤ g) : Bx (((w.setCell ⟨g, 0, none⟩ (.int .i64 s)).setCell ⟨g, 1, none⟩ (.slice A1 n1 c1)).setCell ⟨g, 2, none⟩ (.slice A2 n2 c2)) g 32 [.int .i64 s, .slice A1 n1 c1, .slice A2 n2 c2] ∧ Rq (((w.setCell ⟨g, 0, none⟩ (.int .i64 s)).setCell ⟨g, 1, none⟩ (.slice A1 n1 c1)).setCell ⟨g, 2, none⟩ (.slice A2 n2 c2)) (.agg #[.int .i64 s, .slice A1 n1 c1, .slice A2 n2 c2]) q ∧
  Q a (((w.setCell ⟨g, 0, none⟩ (.int .i64 s)).setCell ⟨g, 1, none⟩ (.slice A1 n1 c1)).setCell ⟨g, 2, none⟩ (.slice A2 n2 c2)) := by
 have h1 : Bx (gJ w g 0 [.int .i64 s, .slice A1 n1 c1, .slice A2 n2 c2]) g 32 _ := hR.put hl;have h2 : Rq w (.agg #[.int .i64 s, .slice A1 n1 c1, .slice A2 n2 c2]) q := ⟨_, _, _, _, _, _, by rw [hs], by rw [hM]; exact hx, fun _ => by rw [hN]; exact hy⟩
 exact ⟨h1, h2.ap ⟨fun k hk => jE (l := [.int .i64 s, .slice A1 n1 c1, .slice A2 n2 c2]) hk, kK (l := [.int .i64 s, .slice A1 n1 c1, .slice A2 n2 c2]), _, _, hR, by decide, hrow⟩, lX (l := [.int .i64 s, .slice A1 n1 c1, .slice A2 n2 c2]) hQ hg⟩
theorem iN : ∀ x ∈ ([.int .i64 0, .slice none 0 0, .slice none 0 0] : List Value), ∀ z, x ≠ .int .u64 z := by
 intro x hx z;simp at hx;rcases hx with rfl | rfl | rfl <;> simp
theorem zU (s : Int) (x y : Value) (M N : Nat) (q : Rat) (w : World) (hx : Nr w x M) (hy : Nr w y N) (hN : s ≠ 0 → 0 < N) (hs : s = -1 ∨ s = 0 ∨ s = 1) (hq : q * (N : Rat) = (s : Rat) * (M : Rat)) (h0 : N = 0 → q = 0) (lM : 31 * dg B30 M + 80 ≤ LIM) (lN : 31 * dg B30 N + 80 ≤ LIM) :
  Calls Tryz.prog 80 #[.int .i64 s, x, y] w fun e w' => ∃ r, e = .returned r ∧ Rq w' r q ∧ Q w w' := by
 obtain ⟨W, hW, hG0, hR0⟩ := yR w 32 [.int .i64 0, .slice none 0 0, .slice none 0 0];have hG0' : w.heap.size < W.heap.size := hR0.lt;by_cases hz : s = 0 ∨ M = 0
 ·obtain rfl := aCK hq hN hz h0;clear hq h0 hN lM lN hs;have fz := hR0.frozen;have r0 := hR0.cell 0 rfl;have r1 := hR0.cell 1 rfl;have r2 := hR0.cell 2 rfl;have hb9 := hR0.put (l := [.int .i64 0, .slice none 0 0, .slice none 0 0]) rfl;have hq9 := lX (g := w.heap.size) (i := 0) (l := [.int .i64 0, .slice none 0 0, .slice none 0 0]) hG0 (Nat.le_refl _);simp only [gJ, Nat.reduceAdd] at hb9 hq9;have z0 := hb9.cell 0 rfl;have z1 := hb9.cell 1 rfl;have z2 := hb9.cell 2 rfl;clear hb9 hR0;by_cases hs0 : s = 0
  ·subst hs0;clear hz;go_enter Tryz.func80, Tryz.ntmps80
   go_wp2_with fail
   refine bodyPost_ret (v := .agg #[.int .i64 0, .slice none 0 0, .slice none 0 0]) (by simp [results, Tryz.results80, go_sem, z0, z1, z2]) rfl ?_;exact ⟨_, rfl, Rq.none _, hq9⟩
  ·have hM : M = 0 := (by omega);subst hM;have hsb : (s == 0) = false := (by simp [hs0]);obtain ⟨A, c, xs, rfl, hc, rx, wx, hv⟩ := hx;have hl := wx.len aF;rw [hv, aQ] at hl;have hx0 : xs = [] := List.eq_nil_of_length_eq_zero hl;subst hx0;clear hz hs0 rx wx hv hl;go_enter Tryz.func80, Tryz.ntmps80
   go_wp2_with fail
   refine bodyPost_ret (v := .agg #[.int .i64 0, .slice none 0 0, .slice none 0 0]) (by simp [results, Tryz.results80, go_sem, z0, z1, z2]) rfl ?_;exact ⟨_, rfl, Rq.none _, hq9⟩
 ·have hM : 0 < M := (by omega);have hs2 : s = -1 ∨ s = 1 := (by omega);have hN2 : 0 < N := hN (by omega);obtain ⟨hp1, hp2, hp3⟩ := aBx hs2 hM hN2 hq;have hsb : (s == 0) = false := by
   rcases hs2 with rfl | rfl <;> rfl
  have HP1 := Lib.hid hp1;have HP2 := Lib.hid hp2;have HP3 := Lib.hid hp3;have HM := Lib.hid hM;have HN := Lib.hid hN2;have LM := Lib.hid lM;have LN := Lib.hid lN;have hxl : ∃ A n c, x = .slice A n c ∧ 0 < n := by
   obtain ⟨A, c, xs, rfl, hc, rx, wx, hv⟩ := hx;refine ⟨A, _, c, rfl, ?_⟩;have hl := wx.len aF;rcases Nat.eq_zero_or_pos xs.length with h | h
   ·rw [List.eq_nil_of_length_eq_zero h] at hv;simp [vl] at hv;omega
   ·exact h
  obtain ⟨A1, n1, c1, rfl, hn1⟩ := hxl;obtain ⟨A2, n2, c2, rfl⟩ := Nr.form hy;have hlb : ((n1 : Int) == 0) = false := (by simp; omega);clear hp1 hp2 hp3 hq h0 hN hs hz hM hs2 hN2 lM lN hn1;by_cases h1 : M = 1
  ·have d1 : decide (M = 1) = true := decide_eq_true h1;have e1 : Nat.gcd M N = 1 := (by rw [h1]; exact Nat.gcd_one_left _);have HE := Lib.hid e1;clear h1 e1;go_enter Tryz.func80, Tryz.ntmps80
   go_wp2_with fail
   refine (gU _ M true _ (hx.q hG0) d1).mono ?_;rintro e w1 ⟨rfl, rfl⟩;have fz := hR0.frozen;have r0 := hR0.cell 0 rfl;have r1 := hR0.cell 1 rfl;have r2 := hR0.cell 2 rfl;go_wp2_with fail
   obtain ⟨hb9, hv9, hq9⟩ := jS hR0 rfl iN (hx.q hG0) (hy.q hG0) HP1.out (by rw [HP2.out, HE.out, Nat.div_one]) (by rw [HP3.out, HE.out, Nat.div_one]) hG0 (Nat.le_refl _);have z0 := hb9.cell 0 rfl;have z1 := hb9.cell 1 rfl;have z2 := hb9.cell 2 rfl;refine bodyPost_ret (v := .agg #[.int .i64 s, .slice A1 n1 c1, .slice A2 n2 c2]) (by simp [results, Tryz.results80, go_sem, z0, z1, z2]) rfl ?_;exact ⟨_, rfl, hv9, hq9⟩
  by_cases h2 : N = 1
  ·have d1 : decide (M = 1) = false := decide_eq_false h1;have d2 : decide (N = 1) = true := decide_eq_true h2;have e1 : Nat.gcd M N = 1 := (by rw [h2]; exact Nat.gcd_one_right _);have HE := Lib.hid e1;clear h1 h2 e1;go_enter Tryz.func80, Tryz.ntmps80
   go_wp2_with fail
   refine (gU _ M false _ (hx.q hG0) d1).mono ?_;rintro e w1 ⟨rfl, rfl⟩;go_wp2_with fail
   refine (gU _ N true _ (hy.q hG0) d2).mono ?_;rintro e w1 ⟨rfl, rfl⟩;have fz := hR0.frozen;have r0 := hR0.cell 0 rfl;have r1 := hR0.cell 1 rfl;have r2 := hR0.cell 2 rfl;go_wp2_with fail
   obtain ⟨hb9, hv9, hq9⟩ := jS hR0 rfl iN (hx.q hG0) (hy.q hG0) HP1.out (by rw [HP2.out, HE.out, Nat.div_one]) (by rw [HP3.out, HE.out, Nat.div_one]) hG0 (Nat.le_refl _);have z0 := hb9.cell 0 rfl;have z1 := hb9.cell 1 rfl;have z2 := hb9.cell 2 rfl;refine bodyPost_ret (v := .agg #[.int .i64 s, .slice A1 n1 c1, .slice A2 n2 c2]) (by simp [results, Tryz.results80, go_sem, z0, z1, z2]) rfl ?_;exact ⟨_, rfl, hv9, hq9⟩
  have d1 : decide (M = 1) = false := decide_eq_false h1;have d2 : decide (N = 1) = false := decide_eq_false h2;clear h1 h2;obtain ⟨d, hd⟩ : ∃ d, Nat.gcd M N = d := ⟨_, rfl⟩
  have hd0 : 0 < d := (by rw [← hd]; exact Nat.gcd_pos_of_pos_right _ HN.out);have hdN : d ≤ N := (by rw [← hd]; exact Nat.gcd_le_right _ HN.out);have HD := Lib.hid hd;have HD0 := Lib.hid hd0;have LD : Hid (dg B30 d + 40 ≤ LIM) := Lib.hid (by have := aR aF hdN; have := LN.out; omega);clear hd hd0 hdN;go_enter Tryz.func80, Tryz.ntmps80
  go_wp2_with fail
  refine (gU _ M false _ (hx.q hG0) d1).mono ?_;rintro e w1 ⟨rfl, rfl⟩;go_wp2_with fail
  refine (gU _ N false _ (hy.q hG0) d2).mono ?_;rintro e w1 ⟨rfl, rfl⟩;go_wp2_with fail
  refine (qU _ _ M N _ (hx.q hG0) (hy.q hG0) HN.out LM.out LN.out).mono ?_;rintro e w1 ⟨vd, rfl, hvd, hq1⟩;rw [HD.out] at hvd;have hG1 := hG0.trans hq1;have hR1 := hR0.q hq1;clear hR0 hG0 hW hq1;by_cases h3 : d = 1
  ·have d3 : decide (d = 1) = true := decide_eq_true h3;have HE : Hid (Nat.gcd M N = 1) := Lib.hid (by rw [HD.out]; exact h3);clear h3;go_wp2_with fail
   refine (gU _ d true _ hvd d3).mono ?_;rintro e w2 ⟨rfl, rfl⟩;have fz := hR1.frozen;have r0 := hR1.cell 0 rfl;have r1 := hR1.cell 1 rfl;have r2 := hR1.cell 2 rfl;go_wp2_with fail
   obtain ⟨hb9, hv9, hq9⟩ := jS hR1 rfl iN (hx.q hG1) (hy.q hG1) HP1.out (by rw [HP2.out, HE.out, Nat.div_one]) (by rw [HP3.out, HE.out, Nat.div_one]) hG1 (Nat.le_refl _);have z0 := hb9.cell 0 rfl;have z1 := hb9.cell 1 rfl;have z2 := hb9.cell 2 rfl;refine bodyPost_ret (v := .agg #[.int .i64 s, .slice A1 n1 c1, .slice A2 n2 c2]) (by simp [results, Tryz.results80, go_sem, z0, z1, z2]) rfl ?_;exact ⟨_, rfl, hv9, hq9⟩
  ·have d3 : decide (d = 1) = false := decide_eq_false h3;clear h3;go_wp2_with fail
   refine (gU _ d false _ hvd d3).mono ?_;rintro e w2 ⟨rfl, rfl⟩;go_wp2_with fail
   refine (qR _ _ M d _ (hx.q hG1) hvd HD0.out (by have := LM.out; omega) LD.out).mono ?_;rintro e w2 ⟨u1, u2, rfl, hu1, -, hq2⟩;have hG2 := hG1.trans hq2;have hR2 := hR1.q hq2;have hvd2 := hvd.q hq2;clear hR1 hvd;go_wp2_with fail
   refine (qR _ _ N d _ (hy.q hG2) hvd2 HD0.out (by have := LN.out; omega) LD.out).mono ?_;rintro e w3 ⟨v1, v2, rfl, hv1, -, hq3⟩;have hG3 := hG2.trans hq3;have hR3 := hR2.q hq3;have hu3 := hu1.q hq3;obtain ⟨B1, m1, e1, rfl⟩ := Nr.form hu3;obtain ⟨B2, m2, e2, rfl⟩ := Nr.form hv1;clear hR2 hvd2 hu1 hq2 hq3 hG1 hG2;have fz := hR3.frozen;have r0 := hR3.cell 0 rfl;have r1 := hR3.cell 1 rfl;have r2 := hR3.cell 2 rfl;go_wp2_with fail
   obtain ⟨hb9, hv9, hq9⟩ := jS hR3 rfl iN hu3 hv1 HP1.out (by rw [HP2.out, HD.out]) (by rw [HP3.out, HD.out]) hG3 (Nat.le_refl _);have z0 := hb9.cell 0 rfl;have z1 := hb9.cell 1 rfl;have z2 := hb9.cell 2 rfl;refine bodyPost_ret (v := .agg #[.int .i64 s, .slice B1 m1 e1, .slice B2 m2 e2]) (by simp [results, Tryz.results80, go_sem, z0, z1, z2]) rfl ?_;exact ⟨_, rfl, hv9, hq9⟩
theorem sn_neg' (q : Rat) : sn (-q) = -sn q := by rw [uF, uF, Rat.neg_num, Int.sign_neg]
theorem den_nz (q : Rat) : 0 < q.den := q.den_pos
theorem jN {q : Rat} (h : q ≠ 0) : 0 < q.num.natAbs := by
 have : q.num ≠ 0 := fun e => h (Rat.num_eq_zero.1 e);omega
theorem wV (q : Rat) : -sn q = sn (-q) ∧ q.num.natAbs = (-q).num.natAbs ∧ q.den = (-q).den := ⟨(sn_neg' q).symm, by rw [Rat.neg_num, Int.natAbs_neg], by rw [Rat.neg_den]⟩
def vX (q : Rat) : Rat := if q < 0 then -q else q
theorem qO (q : Rat) : sn q * sn q = sn (vX q) ∧ q.num.natAbs = (vX q).num.natAbs ∧ q.den = (vX q).den := by
 unfold vX;rcases dF q with ⟨h, e⟩ | ⟨h, e⟩ | ⟨h, e⟩
 ·rw [if_pos h];refine ⟨by rw [sn_neg', e]; rfl, (wV q).2.1, (wV q).2.2⟩
 ·subst h; exact ⟨rfl, rfl, rfl⟩
 ·rw [if_neg (by grind)];exact ⟨by rw [e]; rfl, rfl, rfl⟩
theorem aCq (q : Rat) : sz (vX q) ≤ sz q := by
 unfold vX; split
 ·rw [nP]; exact Nat.le_refl _
 ·exact Nat.le_refl _
end Go.Proofs.YtgpacgadpnpjjaaGreatDoor.K
