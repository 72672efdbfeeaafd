/- ValueParses: for every string the law holds: what Check, Parse, Text and Digits return is what the document says. No condition.. Part of the proof: texts Va6 Vb2 Vb3 Vb4 Vb5. -/
import Derived.Test.YtgpacgadpnpjjaaGreatDoorQp02
import Derived.Test.YtgpacgadpnpjjaaGreatDoorQp04
import Derived.Test.YtgpacgadpnpjjaaGreatDoorQp11
set_option maxHeartbeats 1000000
namespace Go.Proofs.YtgpacgadpnpjjaaGreatDoor
open Go.RowKit
open Ma Me
theorem Me.Nm.parts {w : World} {x : Value} {N : Nat} (h : Nm w x N) : ∃ A c, x = .slice A (dg W64 N) c ∧ dg W64 N ≤ c := by
 obtain ⟨A, c, xs, rfl, hc, rx, wx, rfl⟩ := h;rw [← wx.len aB];exact ⟨A, c, rfl, hc⟩
set_option maxRecDepth 100000 in
theorem zF (s : Nat) (ih : ∀ (M N : Nat) (x y : Value) (w : World), dg W64 M + dg W64 N < s → Nm w x M → Nm w y N → dg W64 M + dg W64 N + 8 ≤ LIM → Calls Tryz.prog 104 #[x, y] w (fU (M * N) w))
  (M N : Nat) (x y : Value) (w : World) (hs : dg W64 M + dg W64 N ≤ s) (hx : Nm w x M) (hy : Nm w y N) (h : dg W64 M + dg W64 N + 8 ≤ LIM) : Calls Tryz.prog 104 #[x, y] w (fU (M * N) w) := by
 have hlen : dg W64 N ≤ dg W64 M ∨ dg W64 M < dg W64 N := by omega
 obtain ⟨A, c, rfl, hc⟩ := hx.parts;obtain ⟨B, d, rfl, hd⟩ := hy.parts;rw [aA] at h;rcases hlen with hlen | hlen
 case' inr => rw [Nat.mul_comm]
 all_goals
  have h1 := aW (N := N) aB;have h2 := aW (N := M) aB;generalize hm : dg W64 M = m at *
  generalize hn : dg W64 N = n at *
 case' inl =>
  have hX := hx; have hY := hy; have hY0 := h1; have hlx := hm; have hly := hn;clear hx hy h1 h2 hm hn;generalize M = X at *; generalize N = Y at *; generalize m = lx at *; generalize n = ly at *
 case' inr =>
  have hX := hy; have hY := hx; have hY0 := h2; have hlx := hn; have hly := hm;clear hx hy h1 h2 hm hn;generalize N = X at *; generalize M = Y at *; generalize n = lx at *; generalize m = ly at *
 all_goals
  have HM := Lib.hid hlx; have HN := Lib.hid hly;by_cases h0 : ly = 0
  ·rw [hY0 h0, Nat.mul_zero];subst h0;clear hs ih hX hY hlx hly;go_enter Tryz.func104, Tryz.ntmps104
   go_wp2_with fail
   go_ret
   exact ⟨_, rfl, Nm.zero _ _, Q.refl _, Nw.nil⟩
  ·have h02 : ((ly : Int) == 0) = false := (by rw [beq_eq_false_iff_ne]; omega);by_cases hsm : ly < 40
   ·clear hs ih hlx hly;go_enter Tryz.func104, Tryz.ntmps104
    go_wp2_with fail
    refine (xD _ _ X Y _ hX hY (by rw [HM.out, HN.out, aA]; omega)).mono ?_;rintro e w1 ⟨v, rfl, hnm, hq, hnw⟩;go_wp2_with fail
    go_ret
    exact ⟨_, rfl, hnm, hq, hnw⟩
   ·obtain ⟨hf, hhf⟩ : ∃ hf : Nat, ((lx : Int) + 1) / 2 = (hf : Int) := ⟨(lx + 1) / 2, by omega⟩
    have hh1 : lx ≤ 2 * hf := (by omega);have hh2 : 2 * hf ≤ lx + 1 := (by omega);have s1 : dg W64 (X % W64 ^ hf) ≤ hf := xR aB;have s2 : dg W64 (X / W64 ^ hf) ≤ lx - hf := (by rw [← hlx]; exact nK aB);have s3 : dg W64 (Y % W64 ^ hf) ≤ hf := xR aB;have s4 : dg W64 (Y / W64 ^ hf) ≤ ly - hf := (by rw [← hly]; exact nK aB);have ex : X % W64 ^ hf + X / W64 ^ hf * W64 ^ hf = X := (by rw [Nat.mul_comm]; exact Nat.mod_add_div _ _);have ey : Y % W64 ^ hf + Y / W64 ^ hf * W64 ^ hf = Y := (by rw [Nat.mul_comm]; exact Nat.mod_add_div _ _);have EX := Lib.hid ex; have EY := Lib.hid ey;clear ex ey;by_cases hle : ly ≤ hf
    ·have t1 := dY aB (X % W64 ^ hf) Y;have t2 := dY aB (X / W64 ^ hf) Y;rw [hly] at t1 t2;clear hlx hly;go_enter Tryz.func104, Tryz.ntmps104
     go_wp2_with fail
     refine (rM _ X hf _ _ hX rfl (by rw [HM.out, aA]; omega) (by omega)).mono ?_;rintro e w1 ⟨x0, x1, rfl, hx0, hx1, _, hq1⟩;have hY1 := hY.q hq1;generalize X % W64 ^ hf = a0 at *
     generalize X / W64 ^ hf = a1 at *
     go_wp2_with fail
     refine (ih a0 Y _ _ _ (by rw [HN.out]; omega) hx0 hY1 (by rw [HN.out, aA]; omega)).mono ?_;rintro e w2 ⟨v1, rfl, hv1, hq2, hn1⟩;go_wp2_with fail
     refine (ih a1 Y _ _ _ (by rw [HN.out]; omega) (hx1.q hq2) (hY1.q hq2) (by rw [HN.out, aA]; omega)).mono ?_;rintro e w3 ⟨v2, rfl, hv2, hq3, hn2⟩;go_wp2_with fail
     refine (gQ _ _ (a0 * Y) (a1 * Y) hf _ _ (hv1.q hq3) hv2 rfl (by rw [aA]; omega) (by rw [aA]; omega)).mono ?_;rintro e w4 ⟨v3, rfl, hv3, hq4, hn3⟩;have e3 : a0 * Y + a1 * Y * W64 ^ hf = X * Y := by
      conv => rhs; rw [← EX.out, Nat.add_mul, Nat.mul_right_comm]
     rw [e3] at hv3;go_wp2_with fail
     go_ret
     exact ⟨_, rfl, hv3, ((hq1.trans hq2).trans hq3).trans hq4, hn3.more (((hq1.trans hq2).trans hq3).size)⟩
    ·have u1 := dY aB (X % W64 ^ hf) (Y % W64 ^ hf);have u2 := dY aB (X / W64 ^ hf) (Y / W64 ^ hf);have u3 := lH aB (X % W64 ^ hf) (X / W64 ^ hf);have u4 := lH aB (Y % W64 ^ hf) (Y / W64 ^ hf);have u5 := dY aB (X % W64 ^ hf + X / W64 ^ hf) (Y % W64 ^ hf + Y / W64 ^ hf);have hk := aD6 (x0 := X % W64 ^ hf) (x1 := X / W64 ^ hf) (y0 := Y % W64 ^ hf) (y1 := Y / W64 ^ hf);have HK := Lib.hid hk;clear hlx hly hk;go_enter Tryz.func104, Tryz.ntmps104
     go_wp2_with fail
     refine (rM _ X hf _ _ hX rfl (by rw [HM.out, aA]; omega) (by omega)).mono ?_;rintro e w1 ⟨x0, x1, rfl, hx0, hx1, _, hq1⟩;have hY1 := hY.q hq1;go_wp2_with fail
     refine (rM _ Y hf _ _ hY1 rfl (by rw [HN.out, aA]; omega) (by omega)).mono ?_;rintro e w2 ⟨y0, y1, rfl, hy0, hy1, _, hq2⟩;have hx0 := hx0.q hq2; have hx1 := hx1.q hq2;generalize X % W64 ^ hf = a0 at *
     generalize X / W64 ^ hf = a1 at *
     generalize Y % W64 ^ hf = b0 at *
     generalize Y / W64 ^ hf = b1 at *
     go_wp2_with fail
     refine (ih a0 b0 _ _ _ (by omega) hx0 hy0 (by rw [aA]; omega)).mono ?_;rintro e w3 ⟨lo, rfl, hlo, hq3, _⟩;have hx0 := hx0.q hq3; have hx1 := hx1.q hq3; have hy0 := hy0.q hq3; have hy1 := hy1.q hq3;go_wp2_with fail
     refine (ih a1 b1 _ _ _ (by omega) hx1 hy1 (by rw [aA]; omega)).mono ?_;rintro e w4 ⟨hi, rfl, hhi, hq4, _⟩;have hx0 := hx0.q hq4; have hx1 := hx1.q hq4; have hy0 := hy0.q hq4; have hy1 := hy1.q hq4; have hlo := hlo.q hq4;go_wp2_with fail
     refine (qH _ _ a0 a1 _ hx0 hx1 (by rw [aA]; omega) (by rw [aA]; omega)).mono ?_;rintro e w5 ⟨pa, rfl, hpa, hq5, _⟩;have hy0 := hy0.q hq5; have hy1 := hy1.q hq5; have hlo := hlo.q hq5; have hhi := hhi.q hq5;go_wp2_with fail
     refine (qH _ _ b0 b1 _ hy0 hy1 (by rw [aA]; omega) (by rw [aA]; omega)).mono ?_;rintro e w6 ⟨pb, rfl, hpb, hq6, _⟩;have hlo := hlo.q hq6; have hhi := hhi.q hq6; have hpa := hpa.q hq6;go_wp2_with fail
     refine (ih (a0 + a1) (b0 + b1) _ _ _ (by omega) hpa hpb (by rw [aA]; omega)).mono ?_;rintro e w7 ⟨pm, rfl, hpm, hq7, _⟩;have hlo := hlo.q hq7; have hhi := hhi.q hq7;go_wp2_with fail
     refine (rJ _ _ ((a0 + a1) * (b0 + b1)) (a0 * b0) _ hpm hlo HK.out.1 (by rw [aA]; omega)).mono ?_;rintro e w8 ⟨m1, rfl, hm1, hq8, _⟩;have hlo := hlo.q hq8; have hhi := hhi.q hq8;have z1 : dg W64 ((a0 + a1) * (b0 + b1) - a0 * b0) ≤ dg W64 ((a0 + a1) * (b0 + b1)) := aBH aB;have z2 : dg W64 ((a0 + a1) * (b0 + b1) - a0 * b0 - a1 * b1) ≤ dg W64 ((a0 + a1) * (b0 + b1) - a0 * b0) := aBH aB;go_wp2_with fail
     refine (rJ _ _ ((a0 + a1) * (b0 + b1) - a0 * b0) (a1 * b1) _ hm1 hhi HK.out.2 (by rw [aA]; omega)).mono ?_;rintro e w9 ⟨m2, rfl, hm2, hq9, _⟩;have hlo := hlo.q hq9; have hhi := hhi.q hq9;go_wp2_with fail
     refine (gQ _ _ (a0 * b0) (a1 * b1) (2 * hf) _ _ hlo hhi (by omega) (by rw [aA]; omega) (by rw [aA]; omega)).mono ?_;rintro e w10 ⟨j1, rfl, hj1, hq10, _⟩;have hm2 := hm2.q hq10;have z3 := lH aB (a0 * b0) (a1 * b1 * W64 ^ (2 * hf));have z4 : dg W64 (a1 * b1 * W64 ^ (2 * hf)) ≤ dg W64 (a1 * b1) + 2 * hf := kU aB;go_wp2_with fail
     refine (gQ _ _ (a0 * b0 + a1 * b1 * W64 ^ (2 * hf)) _ hf _ _ hj1 hm2 rfl (by rw [aA]; omega) (by rw [aA]; omega)).mono ?_;rintro e w11 ⟨j2, rfl, hj2, hq11, hn2⟩;have e3 : a0 * b0 + a1 * b1 * W64 ^ (2 * hf) + ((a0 + a1) * (b0 + b1) - a0 * b0 - a1 * b1) * W64 ^ hf = X * Y := by
      conv => rhs; rw [← EX.out, ← EY.out, aFM, ← Nat.pow_add, ← Nat.two_mul]
     rw [e3] at hj2;have hq := ((((((((hq1.trans hq2).trans hq3).trans hq4).trans hq5).trans hq6).trans hq7).trans hq8).trans hq9).trans hq10;go_wp2_with fail
     go_ret
     exact ⟨_, rfl, hj2, hq.trans hq11, hn2.more hq.size⟩
theorem dP (M N : Nat) (x y : Value) (w : World) (hx : Nm w x M) (hy : Nm w y N) (h : dg W64 M + dg W64 N + 8 ≤ LIM) : Calls Tryz.prog 104 #[x, y] w (fU (M * N) w) := by
 have key : ∀ (s M N : Nat) (x y : Value) (w : World), dg W64 M + dg W64 N < s → Nm w x M → Nm w y N → dg W64 M + dg W64 N + 8 ≤ LIM → Calls Tryz.prog 104 #[x, y] w (fU (M * N) w) := by
  intro s
  induction s with
  | zero => intro M N x y w hs; omega
  | succ s ih => intro M N x y w hs hx hy h; exact zF s ih M N x y w (by omega) hx hy h
 exact key _ M N x y w (Nat.lt_succ_self _) hx hy h
theorem aE9 {b L H n m : Nat} (hb : 1 < b) (hL : L < b ^ n) (hH : dg b H ≤ m) : dg b (L + H * b ^ n) ≤ n + m := by
 rw [aD hb];have h1 := (aD hb H m).1 hH;have h2 : (H + 1) * b ^ n ≤ b ^ m * b ^ n := Nat.mul_le_mul_right _ h1;rw [Nat.add_mul, Nat.one_mul, ← Nat.pow_add, Nat.add_comm m n] at h2;omega
theorem jF {b M N : Nat} (hb : 1 < b) : dg b (N / M) ≤ dg b N := aR hb (Nat.div_le_self _ _)
theorem vM {b M N : Nat} (hb : 1 < b) (hM : 0 < M) : dg b (N % M) ≤ dg b M := aR hb (Nat.le_of_lt (Nat.mod_lt _ hM))
theorem dg_rest' {b M N : Nat} (hb : 1 < b) : dg b (N % M) ≤ dg b N := aR hb (Nat.mod_le _ _)
theorem mZ {b M : Nat} (h : 1 ≤ dg b M) : 0 < M := by
 rcases Nat.eq_zero_or_pos M with h1 | h1
 ·rw [h1, aQ] at h; omega
 ·exact h1
def uP (s : Nat) : Prop := ∀ (N M : Nat) (x y : Value) (w : World), dg W64 N < s → Nm w x N → Nm w y M → 2 ≤ dg W64 M → W64 ^ dg W64 M ≤ 2 * M → 4 * (dg W64 N + dg W64 M) + 40 ≤ LIM →
 Calls Tryz.prog 215 #[x, y] w (nR N M w)
set_option maxRecDepth 100000 in
theorem aDr (s : Nat) (ih : uP s) (N M n : Nat) (z : Int) (x y : Value) (w : World) (hs : dg W64 N ≤ s) (hx : Nm w x N) (hy : Nm w y M) (h2 : 2 ≤ dg W64 M) (hnorm : W64 ^ dg W64 M ≤ 2 * M) (hB : 4 * (dg W64 N + dg W64 M) + 40 ≤ LIM) (hz : z = (n : Int)) (hn0 : 0 < n) (hnN : dg W64 M + n < dg W64 N) :
  Calls Tryz.prog 235 #[x, y, .int .i64 z] w (nR N M w) := by
 subst hz;rw [aA] at hB;have hM0 : 0 < M := mZ (b := W64) (by omega);have hp : 0 < W64 ^ n := Nat.pow_pos (by decide);have a1 : dg W64 (N / W64 ^ n) ≤ dg W64 N - n := nK aB;have a2 : dg W64 (N % W64 ^ n) ≤ n := xR aB;have a3 : dg W64 (N / W64 ^ n % M) ≤ dg W64 M := vM aB hM0;have a4 : dg W64 (N % W64 ^ n + N / W64 ^ n % M * W64 ^ n) ≤ n + dg W64 M := aE9 aB (Nat.mod_lt _ hp) a3;have a5 : dg W64 (N / W64 ^ n / M) ≤ dg W64 (N / W64 ^ n) := jF aB;have a6 : dg W64 ((N % W64 ^ n + N / W64 ^ n % M * W64 ^ n) / M) ≤ dg W64 (N % W64 ^ n + N / W64 ^ n % M * W64 ^ n) := jF aB;have key := aCX (x := N) (y := M) (p := W64 ^ n) hM0 rfl rfl rfl rfl hp;have HK := Lib.hid key; have HNO := Lib.hid hnorm;clear key hnorm;go_enter Tryz.func235, Tryz.ntmps235
 go_wp2_with fail
 refine (rM _ N n _ _ hx rfl (by rw [aA]; omega) (by omega)).mono ?_;rintro e w1 ⟨lo, hi, rfl, hlo, hhi, _, hq1⟩;have hy1 := hy.q hq1;go_wp2_with fail
 refine (ih _ M _ _ _ (by omega) hhi hy1 h2 HNO.out (by rw [aA]; omega)).mono ?_;rintro e w2 ⟨q1, r1, rfl, hq1v, hr1v, hq2, hn1⟩;go_wp2_with fail
 refine (gQ _ _ _ _ n _ _ (hlo.q hq2) hr1v rfl (by rw [aA]; omega) (by rw [aA]; omega)).mono ?_;rintro e w3 ⟨j, rfl, hj, hq3, hnj⟩;go_wp2_with fail
 refine (ih _ M _ _ _ (by omega) hj ((hy1.q hq2).q hq3) h2 HNO.out (by rw [aA]; omega)).mono ?_;rintro e w4 ⟨q0, r0, rfl, hq0v, hr0v, hq4, hn0'⟩;go_wp2_with fail
 refine (gQ _ _ _ _ n _ _ hq0v ((hq1v.q hq3).q hq4) rfl (by rw [aA]; omega) (by rw [aA]; omega)).mono ?_;rintro e w5 ⟨j2, rfl, hj2, hq5, hnj2⟩;obtain ⟨k1, k2, k3⟩ := HK.out;rw [k1] at hj2;have hr := hr0v.q hq5;rw [k2] at hr;have hq := ((hq1.trans hq2).trans hq3).trans hq4;go_wp2_with fail
 go_ret2
 exact ⟨_, _, rfl, hj2, hr, hq.trans hq5, hnj2.more hq.size⟩
set_option maxRecDepth 100000 in
theorem aCf (s : Nat) (ih : uP s) (N M n p : Nat) (z : Int) (x vh vl_ vy : Value) (an ah al ay : Addr) (w : World) (hx : Nm w x N) (hz : z = (p : Int)) (cn : w.cell? an = some (.int .i64 (n : Int))) (ch : w.cell? ah = some vh) (cl : w.cell? al = some vl_) (cy : w.cell? ay = some vy) (bn : an.block < w.heap.size) (bh : ah.block < w.heap.size) (bl_ : al.block < w.heap.size) (by_ : ay.block < w.heap.size) (hvh : Nm w vh (M / W64 ^ n)) (hvl : Nm w vl_ (M % W64 ^ n)) (hvy : Nm w vy M) (hs : dg W64 (N / W64 ^ (p + n)) < s) (h2 : 2 ≤ dg W64 (M / W64 ^ n)) (hnorm : W64 ^ dg W64 (M / W64 ^ n) ≤ 2 * (M / W64 ^ n)) (hB : 4 * (dg W64 N + dg W64 M) + 40 ≤ LIM) (hnM : n ≤ dg W64 M) (hpn' : p ≤ n) :
  Calls Tryz.prog 247 #[x, .int .i64 z, .pointer (some an), .pointer (some ah), .pointer (some al), .pointer (some ay)] w (nR N (M * W64 ^ p) w) := by
 subst hz;rw [aA] at hB;have hp : 0 < W64 ^ p := Nat.pow_pos (by decide);have hpn : 0 < W64 ^ (p + n) := Nat.pow_pos (by decide);have hyh : 0 < M / W64 ^ n := mZ (b := W64) (by omega);have a1 : dg W64 (N / W64 ^ (p + n)) ≤ dg W64 N := jF aB;have a2 : dg W64 (N % W64 ^ (p + n)) ≤ dg W64 N := dg_rest' aB;have a0 : dg W64 (M / W64 ^ n) ≤ dg W64 M := jF aB;have a3 : dg W64 (N / W64 ^ (p + n) % (M / W64 ^ n)) ≤ dg W64 (M / W64 ^ n) := vM aB hyh;have a4 : dg W64 (N / W64 ^ (p + n) / (M / W64 ^ n)) ≤ dg W64 (N / W64 ^ (p + n)) := jF aB;have a5 : dg W64 (M % W64 ^ n) ≤ dg W64 M := dg_rest' aB;have a6 := dY aB (N / W64 ^ (p + n) / (M / W64 ^ n)) (M % W64 ^ n);have eM : M = M % W64 ^ n + M / W64 ^ n * W64 ^ n := by rw [Nat.mul_comm]; exact (Nat.mod_add_div _ _).symm
 have eN : N = N % W64 ^ (p + n) + (N / W64 ^ (p + n) / (M / W64 ^ n) * (M / W64 ^ n) + N / W64 ^ (p + n) % (M / W64 ^ n)) * (W64 ^ p * W64 ^ n) := by
  have h1 := Nat.div_add_mod (N / W64 ^ (p + n)) (M / W64 ^ n);rw [Nat.mul_comm] at h1;rw [h1, ← Nat.pow_add, Nat.mul_comm]; exact (Nat.mod_add_div _ _).symm
 have hlo := Nat.mod_lt N hpn;have hr0 := Nat.mod_lt (N / W64 ^ (p + n)) hyh;have cellQ : ∀ {w1 : World} {a : Addr}, Q w w1 → a.block < w.heap.size → w1.cell? a = w.cell? a := fun h1 h2 => h1.cell h2;obtain ⟨H, hH⟩ : ∃ H, N / W64 ^ (p + n) = H := ⟨_, rfl⟩
 obtain ⟨L, hL⟩ : ∃ L, N % W64 ^ (p + n) = L := ⟨_, rfl⟩
 obtain ⟨Yh, hYh⟩ : ∃ Yh, M / W64 ^ n = Yh := ⟨_, rfl⟩
 obtain ⟨Yl, hYl⟩ : ∃ Yl, M % W64 ^ n = Yl := ⟨_, rfl⟩
 rw [hH, hL, hYh] at eN;rw [hH] at a1 hs;rw [hL] at a2 hlo;rw [hYh] at a0 h2 hnorm hvh hyh;rw [hYl] at a5 hvl;rw [hYh, hYl] at eM;rw [hH, hYh] at a3 a4 hr0;rw [hH, hYh, hYl] at a6;obtain ⟨q0, hq0⟩ : ∃ q0, H / Yh = q0 := ⟨_, rfl⟩
 obtain ⟨r0, hr0'⟩ : ∃ r0, H % Yh = r0 := ⟨_, rfl⟩
 rw [hq0, hr0'] at eN;rw [hr0'] at a3 hr0;rw [hq0] at a4 a6;have hM0 : 0 < M := by
  rw [eM];have := Nat.mul_pos hyh (show 0 < W64 ^ n from Nat.pow_pos (by decide));omega
 have hMp : 0 < M * W64 ^ p := Nat.mul_pos hM0 hp;have a7 : dg W64 (q0 * Yl * W64 ^ p) ≤ dg W64 (q0 * Yl) + p := kU aB;have a8 : dg W64 (M * W64 ^ p) ≤ dg W64 M + p := kU aB;have a9 := lH aB (q0 * Yl * W64 ^ p) (M * W64 ^ p);have rbound : ∀ r, r < q0 * Yl * W64 ^ p + M * W64 ^ p → dg W64 r ≤ dg W64 (q0 * Yl * W64 ^ p + M * W64 ^ p) := fun r h => aR aB (Nat.le_of_lt h);have hst : L + r0 * W64 ^ (p + n) < q0 * Yl * W64 ^ p + M * W64 ^ p := by
  have h1 : (r0 + 1) * W64 ^ (p + n) ≤ Yh * W64 ^ (p + n) := Nat.mul_le_mul_right _ hr0;rw [Nat.add_mul, Nat.one_mul] at h1;have h3 : Yh * W64 ^ (p + n) ≤ M * W64 ^ p := by
   rw [eM, Nat.pow_add, Nat.add_mul, Nat.mul_comm (W64 ^ p), ← Nat.mul_assoc];omega
  omega
 have eN' : N = L + (q0 * Yh + r0) * (W64 ^ p * W64 ^ n) := eN;have HD := Lib.hid (And.intro eM eN');have HNO := Lib.hid hnorm;have HPN : Hid (W64 ^ (p + n) = W64 ^ p * W64 ^ n) := Lib.hid (Nat.pow_add _ _ _);have HH := Lib.hid (And.intro hH (And.intro hL (And.intro hq0 hr0')));clear eM eN eN' hnorm hH hL hYh hYl hq0 hr0' hlo hr0 hyh hpn hp;go_enter Tryz.func247, Tryz.ntmps247
 go_wp2_with fail
 refine (rM _ N (p + n) _ _ hx (by omega) (by rw [aA]; omega) (by omega)).mono ?_;rintro e w1 ⟨lo, hi, rfl, hlo, hhi, _, hq1⟩;rw [HH.out.2.1] at hlo;rw [HH.out.1] at hhi;have cn1 := (cellQ hq1 bn).trans cn;have ch1 := (cellQ hq1 bh).trans ch;go_wp2_with fail
 refine (ih H Yh _ _ _ hs hhi (hvh.q hq1) h2 HNO.out (by rw [aA]; omega)).mono ?_;rintro e w2 ⟨qv, rv, rfl, hqv, hrv, hq2', hnq⟩;rw [HH.out.2.2.1] at hqv;rw [HH.out.2.2.2] at hrv;have hq2 := hq1.trans hq2';have cn2 := (cellQ hq2 bn).trans cn;go_wp2_with fail
 refine (gQ _ _ L r0 (p + n) _ _ (hlo.q hq2') hrv (by omega) (by rw [aA]; omega) (by rw [aA]; omega)).mono ?_;rintro e w3 ⟨rv3, rfl, hrv3, hq3', -⟩;have hq3 := hq2.trans hq3';have cl3 := (cellQ hq3 bl_).trans cl;have hqv3 := hqv.q hq3';have hnq3 : Nw w.heap.size qv := hnq.more hq1.size;go_wp2_with fail
 refine (dP q0 Yl _ _ _ hqv3 (hvl.q hq3) (by rw [aA]; omega)).mono ?_;rintro e w4 ⟨tv, rfl, htv, hq4', -⟩;go_wp2_with fail
 refine (gQ _ _ 0 (q0 * Yl) p _ _ (Nm.zero _ _) htv rfl (by rw [aQ, aA]; omega) (by rw [aA]; omega)).mono ?_;rintro e w5 ⟨tk, rfl, htk, hq5', -⟩;rw [Nat.zero_add] at htk;have hq5 := (hq3.trans hq4').trans hq5';have hqv5 := (hqv3.q hq4').q hq5';have hrv5 := (hrv3.q hq4').q hq5';clear hlo hhi hqv hrv hqv3 hrv3 htv hq1 hq2' hq2 hq3' hq3 hq4' hq5' cn1 ch1 cn2 cl3 hnq;go_wp2_with fail
 go_loopg [8, 9] q0 (fun gk qv rv w1 => gk ≤ q0 ∧ Nm w1 qv gk ∧ Nw w.heap.size qv ∧ Nm w1 rv (L + r0 * W64 ^ (p + n) + (q0 - gk) * (M * W64 ^ p)) ∧ L + r0 * W64 ^ (p + n) + (q0 - gk) * (M * W64 ^ p) < q0 * Yl * W64 ^ p + M * W64 ^ p ∧ Q w w1 ∧ Nm w1 tk (q0 * Yl * W64 ^ p))
 case atStart => exact ⟨Nat.le_refl _, hqv5, hnq3, by rw [Nat.sub_self, Nat.zero_mul]; exact hrv5, by rw [Nat.sub_self, Nat.zero_mul]; exact hst, hq5, htk⟩
 case round =>
  obtain ⟨w0, hw0⟩ : ∃ w0 : World, w0 = wr := ⟨_, rfl⟩
  obtain ⟨hgk, hqv, hnq, hrv, hrl, hq, htk⟩ := hrel;have hrb := rbound _ hrl;obtain ⟨R, hR⟩ : ∃ R, L + r0 * W64 ^ (p + n) + (q0 - gk) * (M * W64 ^ p) = R := ⟨_, rfl⟩
  rw [hR] at hrv hrl hrb;have HR := Lib.hid hR; clear hR;rcases Nat.lt_or_ge R (q0 * Yl * W64 ^ p) with hlt | hge
  ·have hcmp := Lib.hid (fQ hlt);have hstop := aBQ (x := N) (y := M) (p := W64 ^ p) (n := W64 ^ n) (k := q0 - gk) HD.out.1 HD.out.2 (by omega) (by rw [← HPN.out, HR.out]; exact hlt);have hg0 : 0 < gk := (by omega);have hnext : R + M * W64 ^ p = L + r0 * W64 ^ (p + n) + (q0 - (gk - 1)) * (M * W64 ^ p) := by
    rw [← HR.out, show q0 - (gk - 1) = (q0 - gk) + 1 by omega, Nat.add_mul _ 1, Nat.one_mul, Nat.add_assoc]
   have HNX := Lib.hid hnext; clear hnext;have hrl2 : R + M * W64 ^ p < q0 * Yl * W64 ^ p + M * W64 ^ p := (by omega);have hgd : dg W64 gk ≤ dg W64 q0 := aR aB hgk;have cy0 := (cellQ hq by_).trans cy;go_wp2_with fail
   refine (aZ _ _ R (q0 * Yl * W64 ^ p) _ hrv htk (by rw [aA]; omega) (by rw [aA]; omega)).mono ?_;rintro e w6 ⟨rfl, hq6'⟩;rw [hcmp.out];have hq6 := hq.trans hq6';go_wp2_with fail
   refine (fB 1 1 _ rfl (by decide)).mono ?_;rintro e w7 ⟨ov, rfl, hov, hq7', -⟩;have hq7 := hq6.trans hq7';go_wp2_with fail
   refine (rJ _ _ gk 1 _ ((hqv.q hq6').q hq7') hov hg0 (by rw [aA]; omega)).mono ?_;rintro e w8 ⟨qv8, rfl, hqv8, hq8', hnq8⟩;have hq8 := hq7.trans hq8';have cy8 := (cellQ hq8 by_).trans cy;go_wp2_with fail
   refine (gQ _ _ R M p _ _ (((hrv.q hq6').q hq7').q hq8') (hvy.q hq8) rfl (by rw [aA]; omega) (by rw [aA]; omega)).mono ?_;rintro e w9 ⟨rv9, rfl, hrv9, hq9', -⟩;go_wp2_with fail
   go_roundg (gk - 1)
   case measure => omega
   case rel =>
    rw [HNX.out] at hrv9 hrl2;exact ⟨by omega, hqv8.q hq9', hnq8.more hq7.size, hrv9, hrl2, hq8.trans hq9', (((htk.q hq6').q hq7').q hq8').q hq9'⟩
  ·have hcmp : cmp R (q0 * Yl * W64 ^ p) = 0 ∨ cmp R (q0 * Yl * W64 ^ p) = 1 := by
    rcases Nat.eq_or_lt_of_le hge with h | h
    ·left; rw [← h]; exact cmp_eq _
    ·right; exact gT h
   have hfin := aCY (x := N) (y := M) (p := W64 ^ p) (n := W64 ^ n) (lo := L) (r := r0) (k := q0 - gk) (q := q0) HD.out.1 HD.out.2 (by omega) (by rw [← HPN.out, HR.out]; exact hge) (by rw [← HPN.out, HR.out]; exact hrl);rw [← HPN.out, HR.out, show q0 - (q0 - gk) = gk by omega] at hfin;have HF := Lib.hid hfin; clear hfin;have HG := Lib.hid hge; clear hge;rcases hcmp with hcmp | hcmp;all_goals
    replace hcmp := Lib.hid hcmp;go_wp2_with fail
    refine (aZ _ _ R (q0 * Yl * W64 ^ p) _ hrv htk (by rw [aA]; omega) (by rw [aA]; omega)).mono ?_;rintro e w6 ⟨rfl, hq6'⟩;rw [hcmp.out];have hq6 := hq.trans hq6';go_wp2_with fail
    refine (rJ _ _ R (q0 * Yl * W64 ^ p) _ (hrv.q hq6') (htk.q hq6') HG.out (by rw [aA]; omega)).mono ?_;rintro e w8 ⟨rv8, rfl, hrv8, hq8', -⟩;go_wp2_with fail
    go_ret2
    exact ⟨_, _, rfl, by rw [HF.out.1]; exact (hqv.q hq6').q hq8', by rw [HF.out.2]; exact hrv8, hq6.trans hq8', hnq⟩
theorem Me.Nm.form {w : World} {v : Value} {N : Nat} (h : Nm w v N) : ∃ A k c, v = .slice A k c := by
 obtain ⟨A, c, ws, rfl, _⟩ := h;exact ⟨_, _, _, rfl⟩
theorem aCg {M n m : Nat} (hm : dg W64 M = m) (hn : n < m) (h : W64 ^ m ≤ 2 * M) : dg W64 (M / W64 ^ n) = m - n ∧ W64 ^ (m - n) ≤ 2 * (M / W64 ^ n) := by
 have hp : 0 < W64 ^ n := Nat.pow_pos (by decide);obtain ⟨k, rfl⟩ : ∃ k, m = n + (k + 1) := ⟨m - n - 1, by omega⟩
 have e : n + (k + 1) - n = k + 1 := by omega
 rw [e];have hlow : W64 ^ (k + 1) ≤ 2 * (M / W64 ^ n) := by
  have e2 : W64 ^ (k + 1) = 2 * (9223372036854775808 * W64 ^ k) := (by rw [Nat.pow_succ, aU]; omega);rw [e2];refine Nat.mul_le_mul_left 2 ?_;rw [Nat.le_div_iff_mul_le hp];rw [Nat.pow_add, e2] at h;have h2 : 2 * (9223372036854775808 * W64 ^ k * W64 ^ n) ≤ 2 * M := by
   refine Nat.le_trans (Nat.le_of_eq ?_) h;rw [Nat.mul_comm (W64 ^ n), Nat.mul_assoc 2]
  omega
 refine ⟨?_, hlow⟩;have h1 := (aD aB M _).1 (Nat.le_of_eq hm);have h3 : dg W64 (M / W64 ^ n) ≤ k + 1 := by
  rw [aD aB, Nat.div_lt_iff_lt_mul hp, ← Nat.pow_add, Nat.add_comm]; exact h1
 have h4 : ¬ dg W64 (M / W64 ^ n) ≤ k := by
  rw [aD aB];intro h5;rw [Nat.pow_succ] at hlow;have h6 : 2 * W64 ^ k ≤ W64 ^ k * W64 := (by rw [Nat.mul_comm]; exact Nat.mul_le_mul_left _ (by decide));omega
 omega
set_option maxRecDepth 100000 in
theorem aBm (s : Nat) (ih : uP s) (N M n : Nat) (z : Int) (x y : Value) (w : World) (hs : dg W64 N ≤ s) (hx : Nm w x N) (hy : Nm w y M) (h2 : n + 2 ≤ dg W64 M) (hnorm : W64 ^ dg W64 M ≤ 2 * M) (hB : 4 * (dg W64 N + dg W64 M) + 40 ≤ LIM) (hz : z = (n : Int)) (hn0 : 0 < n) (hnN : dg W64 M < dg W64 N) :
  Calls Tryz.prog 236 #[x, y, .int .i64 z] w (nR N M w) := by
 subst hz;have hM0 : 0 < M := mZ (b := W64) (by omega);have hp : 0 < W64 ^ n := Nat.pow_pos (by decide);obtain ⟨m1, m2⟩ := aCg rfl (show n < dg W64 M by omega) hnorm;rw [← m1] at m2;have a1 : dg W64 (N / W64 ^ (n + n)) ≤ dg W64 N - (n + n) := nK aB;have a2 : dg W64 (N % (M * W64 ^ n)) ≤ dg W64 (M * W64 ^ n) := vM aB (Nat.mul_pos hM0 hp);have a3 : dg W64 (M * W64 ^ n) ≤ dg W64 M + n := kU aB;have a4 : dg W64 (N % (M * W64 ^ n) / W64 ^ (0 + n)) ≤ dg W64 (N % (M * W64 ^ n)) - (0 + n) := nK aB;have a5 : dg W64 (N / (M * W64 ^ n)) ≤ dg W64 N - n := by
  have := nK (b := W64) (N := N / M) (n := n) aB;rw [Nat.div_div_eq_div_mul] at this;have h3 : dg W64 (N / M) ≤ dg W64 N := jF aB;omega
 have a6 : dg W64 (N % (M * W64 ^ n) / M) ≤ dg W64 (N % (M * W64 ^ n)) := jF aB;have key := aBb (x := N) (y := M) (p := W64 ^ n) hM0 hp rfl rfl rfl rfl;have hBM : dg W64 M ≤ LIM := by omega
 have hB3 := hB;have hB2 : 4 * (dg W64 (N % (M * W64 ^ n)) + dg W64 M) + 40 ≤ LIM := by
  have h3 : dg W64 (N % (M * W64 ^ n)) ≤ dg W64 N := dg_rest' aB;omega
 have HK := Lib.hid key; have HM2 := Lib.hid m2; have HB2 := Lib.hid hB2; have HB3 := Lib.hid hB3;have HM1 := Lib.hid m1;clear key hnorm m2 hB2 hB3 m1;rw [aA] at hB hBM;obtain ⟨B, yk, yc, rfl⟩ := hy.form;have hq0 : Q w ((w.alloc (.cells #[.slice B yk yc] 23)).alloc (.cells #[.int .i64 (n : Int)] 3)) := ((Q.refl _).alloc _).alloc _;have c4 : ((w.alloc (.cells #[.slice B yk yc] 23)).alloc (.cells #[.int .i64 (n : Int)] 3)).cell? ⟨w.heap.size, 0, none⟩ = some (.slice B yk yc) := by
  rw [World.cell?_alloc_lt _ _ _ (by simp)]; exact cO _ _ _
 have c5 : ((w.alloc (.cells #[.slice B yk yc] 23)).alloc (.cells #[.int .i64 (n : Int)] 3)).cell? ⟨w.heap.size + 1, 0, none⟩ = some (.int .i64 (n : Int)) := by
  have h := cO (w.alloc (.cells #[.slice B yk yc] 23)) (.int .i64 (n : Int)) 3
  rwa [World.size_alloc] at h
 have hz0 : ((w.alloc (.cells #[.slice B yk yc] 23)).alloc (.cells #[.int .i64 (n : Int)] 3)).heap.size = w.heap.size + 2 := by simp
 go_enter Tryz.func236, Tryz.ntmps236
 go_wp2_with fail
 generalize (w.alloc (.cells #[.slice B yk yc] 23)).alloc (.cells #[.int .i64 (n : Int)] 3) = w0 at *
 refine (rM _ M n _ _ (hy.q hq0) rfl (by rw [aA]; omega) (by omega)).mono ?_;rintro e w1 ⟨lo, hi, rfl, hlo, hhi, _, hq1⟩;obtain ⟨A1, k1, c1, rfl⟩ := hlo.form;obtain ⟨A2, k2, c2, rfl⟩ := hhi.form;have hsz : w.heap.size + 2 ≤ w1.heap.size := by have := hq1.size; omega
 have c41 := (hq1.cell (p := ⟨w.heap.size, 0, none⟩) (by simp only; omega)).trans c4;have c51 := (hq1.cell (p := ⟨w.heap.size + 1, 0, none⟩) (by simp only; omega)).trans c5;clear c4 c5 hz0;have hq2 : Q w1 ((w1.alloc (.cells #[.slice A1 k1 c1] 23)).alloc (.cells #[.slice A2 k2 c2] 23)) := ((Q.refl _).alloc _).alloc _;have c8 : ((w1.alloc (.cells #[.slice A1 k1 c1] 23)).alloc (.cells #[.slice A2 k2 c2] 23)).cell? ⟨w1.heap.size, 0, none⟩ = some (.slice A1 k1 c1) := by
  rw [World.cell?_alloc_lt _ _ _ (by simp)]; exact cO _ _ _
 have c9 : ((w1.alloc (.cells #[.slice A1 k1 c1] 23)).alloc (.cells #[.slice A2 k2 c2] 23)).cell? ⟨w1.heap.size + 1, 0, none⟩ = some (.slice A2 k2 c2) := by
  have h := cO (w1.alloc (.cells #[.slice A1 k1 c1] 23)) (.slice A2 k2 c2) 23
  rwa [World.size_alloc] at h
 have hz2 : ((w1.alloc (.cells #[.slice A1 k1 c1] 23)).alloc (.cells #[.slice A2 k2 c2] 23)).heap.size = w1.heap.size + 2 := by simp
 have c42 := (hq2.cell (p := ⟨w.heap.size, 0, none⟩) (by simp only; omega)).trans c41;have c52 := (hq2.cell (p := ⟨w.heap.size + 1, 0, none⟩) (by simp only; omega)).trans c51;go_upto_region 3 with (fail)
 generalize (w1.alloc (.cells #[.slice A1 k1 c1] 23)).alloc (.cells #[.slice A2 k2 c2] 23) = w2 at *
 have hx2 := (hx.q hq0).q (hq1.trans hq2);have hy2 := (hy.q hq0).q (hq1.trans hq2);have hlo2 := hlo.q hq2;have hhi2 := hhi.q hq2;have hq02 := hq0.trans (hq1.trans hq2);clear c41 c51 hlo hhi hx;go_wp2_with fail
 refine (aCf s ih N M n n _ x (.slice A2 k2 c2) (.slice A1 k1 c1) (.slice B yk yc) ⟨w.heap.size + 1, 0, none⟩ ⟨w1.heap.size + 1, 0, none⟩ ⟨w1.heap.size, 0, none⟩ ⟨w.heap.size, 0, none⟩ _ hx2 rfl c52 c9 c8 c42
  (by simp only; omega) (by simp only; omega) (by simp only; omega) (by simp only; omega) hhi2 hlo2 hy2 (by omega) (by rw [HM1.out]; omega) HM2.out HB3.out (by omega) (Nat.le_refl _)).mono ?_
 rintro e w3 ⟨q1, r1, rfl, hq1v, hr1v, hq3, hn1⟩;have c43 := (hq3.cell (p := ⟨w.heap.size, 0, none⟩) (by simp only; omega)).trans c42;have c53 := (hq3.cell (p := ⟨w.heap.size + 1, 0, none⟩) (by simp only; omega)).trans c52;have c83 := (hq3.cell (p := ⟨w1.heap.size, 0, none⟩) (by simp only; omega)).trans c8;have c93 := (hq3.cell (p := ⟨w1.heap.size + 1, 0, none⟩) (by simp only; omega)).trans c9;have hz3 := hq3.size;go_wp2_with fail
 refine (aCf s ih (N % (M * W64 ^ n)) M n 0 _ r1 (.slice A2 k2 c2) (.slice A1 k1 c1) (.slice B yk yc) ⟨w.heap.size + 1, 0, none⟩ ⟨w1.heap.size + 1, 0, none⟩ ⟨w1.heap.size, 0, none⟩ ⟨w.heap.size, 0, none⟩ _ hr1v rfl c53 c93 c83 c43
  (by simp only; omega) (by simp only; omega) (by simp only; omega) (by simp only; omega) (hhi2.q hq3) (hlo2.q hq3) (hy2.q hq3) (by omega) (by rw [HM1.out]; omega) HM2.out HB2.out (by omega) (by omega)).mono ?_
 rintro e w4 ⟨q0, r0, rfl, hq0v, hr0v, hq4, hn0'⟩;rw [Nat.pow_zero, Nat.mul_one] at hq0v hr0v;have c54 := (hq4.cell (p := ⟨w.heap.size + 1, 0, none⟩) (by simp only; omega)).trans c53;go_wp2_with fail
 refine (gQ _ _ _ _ n _ _ hq0v (hq1v.q hq4) rfl (by rw [aA]; omega) (by rw [aA]; omega)).mono ?_;rintro e w5 ⟨j2, rfl, hj2, hq5, hnj2⟩;obtain ⟨g1, g2, g3⟩ := HK.out;rw [g1] at hj2;have hr := hr0v.q hq5;rw [g2] at hr;have hq := (hq02.trans hq3).trans hq4;go_wp2_with fail
 go_ret2
 exact ⟨_, _, rfl, hj2, hr, hq.trans hq5, hnj2.more hq.size⟩
set_option maxRecDepth 100000 in
theorem aFa : ∀ s, uP s := by
 intro s
 induction s with
 | zero => intro N M x y w h; omega
 | succ s ih =>
   intro N M x y w hs hx hy h2 hnorm hB;have hM0 : 0 < M := mZ (b := W64) (by omega);obtain ⟨A, c, rfl, hc⟩ := hx.parts;obtain ⟨B, d, rfl, hd⟩ := hy.parts;have hB' := hB;rw [aA] at hB';obtain ⟨lx, hlx⟩ : ∃ lx, dg W64 N = lx := ⟨_, rfl⟩
   obtain ⟨ly, hly⟩ : ∃ ly, dg W64 M = ly := ⟨_, rfl⟩
   have hlt80 : ∀ w1 : World, Q w w1 → Nm w1 (.slice A lx c) N ∧ Nm w1 (.slice B ly d) M := fun w1 h => by
    rw [← hlx, ← hly]; exact ⟨hx.q h, hy.q h⟩
   have HLX := Lib.hid hlx; have HLY := Lib.hid hly; have HNO := Lib.hid hnorm;have HB := Lib.hid hB;rw [hlx, hly] at hB';rw [hlx] at hs hc ⊢;rw [hly] at h2 hd ⊢;clear hlx hly hnorm hB hx hy;rcases Nat.lt_or_ge N M with hlt | hge
   ·have hcmp := Lib.hid (fQ hlt);have hres : N / M = 0 ∧ N % M = N := ⟨Nat.div_eq_of_lt hlt, Nat.mod_eq_of_lt hlt⟩
    have HRES := Lib.hid hres; clear hres hlt;go_enter Tryz.func215, Tryz.ntmps215
    go_wp2_with fail
    refine (aZ _ _ N M _ (hlt80 _ (Q.refl _)).1 (hlt80 _ (Q.refl _)).2 (by rw [HLX.out, aA]; omega) (by rw [HLY.out, aA]; omega)).mono ?_;rintro e w1 ⟨rfl, hq1⟩;rw [hcmp.out];go_wp2_with fail
    go_ret2
    exact ⟨_, _, rfl, by rw [HRES.out.1]; exact Nm.zero _ _, by rw [HRES.out.2]; exact (hlt80 _ hq1).1, hq1, Nw.nil⟩
   ·have hmono : ly ≤ lx := (by rw [← HLX.out, ← HLY.out]; exact aR aB hge);have hcmp : ∃ z : Int, cmp N M = z ∧ 0 ≤ z := by
     rcases Nat.eq_or_lt_of_le hge with h | h
     ·exact ⟨0, by rw [h]; exact cmp_eq _, by omega⟩
     ·exact ⟨1, gT h, by omega⟩
    obtain ⟨z, hz, hz0⟩ := hcmp;have hz1 : ¬ z < 0 := (by omega);have hcmp := Lib.hid hz;clear hz hge;have hcases : (lx - ly < 80 ∨ ¬ lx - ly < 80 ∧ ly < 80) ∨ (¬ lx - ly < 80 ∧ ¬ ly < 80 ∧ ly < lx - ly) ∨ (¬ lx - ly < 80 ∧ ¬ ly < 80 ∧ ¬ ly < lx - ly) := (by omega);obtain ⟨mo, hmo⟩ : ∃ mo, lx - ly = mo := ⟨_, rfl⟩
    have hmoi : (lx : Int) - (ly : Int) = (mo : Int) := (by omega);rw [hmo] at hcases;clear hz0;rcases hcases with hlong | ⟨h1, h3, h4⟩ | ⟨h1, h3, h4⟩
    ·rcases hlong with h1 | ⟨h1, h3⟩
     all_goals
      go_enter Tryz.func215, Tryz.ntmps215
      go_wp2_with fail
      refine (aZ _ _ N M _ (hlt80 _ (Q.refl _)).1 (hlt80 _ (Q.refl _)).2 (by rw [HLX.out, aA]; omega) (by rw [HLY.out, aA]; omega)).mono ?_;rintro e w1 ⟨rfl, hq1⟩;rw [hcmp.out];go_wp2_with fail
      refine (zD _ _ N M _ (hlt80 _ hq1).1 (hlt80 _ hq1).2 (by rw [HLY.out]; exact h2) HNO.out (by rw [HLX.out, HLY.out]; exact hmono) (by rw [HLX.out, aA]; omega)).mono ?_;rintro e w2 ⟨u, v, rfl, hu, hv, hq2, hnu⟩;go_wp2_with fail
      go_ret2
      exact ⟨u, v, rfl, hu, hv, hq1.trans hq2, hnu.more hq1.size⟩
    ·go_enter Tryz.func215, Tryz.ntmps215
     go_wp2_with fail
     refine (aZ _ _ N M _ (hlt80 _ (Q.refl _)).1 (hlt80 _ (Q.refl _)).2 (by rw [HLX.out, aA]; omega) (by rw [HLY.out, aA]; omega)).mono ?_;rintro e w1 ⟨rfl, hq1⟩;rw [hcmp.out];go_wp2_with fail
     refine (aDr s ih N M (mo / 2) _ _ _ _ (by rw [HLX.out]; omega) (hlt80 _ hq1).1 (hlt80 _ hq1).2 (by rw [HLY.out]; exact h2) HNO.out HB.out (by omega) (by omega) (by rw [HLX.out, HLY.out]; omega)).mono ?_;rintro e w2 ⟨u, v, rfl, hu, hv, hq2, hnu⟩;go_wp2_with fail
     go_ret2
     exact ⟨u, v, rfl, hu, hv, hq1.trans hq2, hnu.more hq1.size⟩
    ·go_enter Tryz.func215, Tryz.ntmps215
     go_wp2_with fail
     refine (aZ _ _ N M _ (hlt80 _ (Q.refl _)).1 (hlt80 _ (Q.refl _)).2 (by rw [HLX.out, aA]; omega) (by rw [HLY.out, aA]; omega)).mono ?_;rintro e w1 ⟨rfl, hq1⟩;rw [hcmp.out];go_wp2_with fail
     refine (aBm s ih N M (mo / 2) _ _ _ _ (by rw [HLX.out]; omega) (hlt80 _ hq1).1 (hlt80 _ hq1).2 (by rw [HLY.out]; omega) HNO.out HB.out (by omega) (by omega) (by rw [HLX.out, HLY.out]; omega)).mono ?_;rintro e w2 ⟨u, v, rfl, hu, hv, hq2, hnu⟩;go_wp2_with fail
     go_ret2
     exact ⟨u, v, rfl, hu, hv, hq1.trans hq2, hnu.more hq1.size⟩
theorem ds (N M : Nat) (x y : Value) (w : World) (hx : Nm w x N) (hy : Nm w y M) (h2 : 2 ≤ dg W64 M) (hnorm : W64 ^ dg W64 M ≤ 2 * M) (hB : 4 * (dg W64 N + dg W64 M) + 40 ≤ LIM) : Calls Tryz.prog 215 #[x, y] w (nR N M w) := aFa _ N M x y w (Nat.lt_succ_self _) hx hy h2 hnorm hB
theorem aDs {b h c L t f : Nat} (hb : b = 2 * h) (hn : h ≤ t * f) : c * b ≤ 2 * ((L + c * t) * f) := by
 have h1 : c * h ≤ c * (t * f) := Nat.mul_le_mul_left _ hn;have h2 : (L + c * t) * f = L * f + c * (t * f) := by rw [Nat.add_mul, Nat.mul_assoc]
 have h3 : c * b = 2 * (c * h) := by rw [hb, Nat.mul_left_comm]
 rw [h2, h3];omega
theorem aDt {ys : List Nat} {k : Nat} (ly : ys.length = k + 1) (wy : Wf W64 ys) : ∃ t, ys[k]? = some t ∧ t < W64 ∧ 0 < t ∧ bl t ≤ 64 ∧ 64 - bl t < 64 ∧
  W64 ^ (k + 1) ≤ 2 * (vl W64 ys * 2 ^ (64 - bl t)) ∧ dg W64 (vl W64 ys * 2 ^ (64 - bl t)) = k + 1 := by
 have ht : ys[k]'(by omega) < W64 := wy.1 _ (List.getElem_mem _);have h0 : ys[k]'(by omega) ≠ 0 := by
  intro h;refine wy.2 ?_;rw [List.getLast?_eq_getElem?, ly, show k + 1 - 1 = k by omega, List.getElem?_eq_getElem (by omega), h]
 have hv : vl W64 ys = vl W64 (ys.take k) + W64 ^ k * ys[k]'(by omega) := by
  have := dZ W64 (ds := ys) (j := k) (by omega)
  rwa [List.take_of_length_le (by omega)] at this
 have hl := bV (aI (n := k) wy.1);rw [List.length_take, Nat.min_eq_left (by omega)] at hl;refine ⟨_, List.getElem?_eq_getElem (by omega), ht, by omega, ?_⟩;generalize ys[k]'(by omega) = t at *
 rw [hv];generalize vl W64 (ys.take k) = L at *
 have hb : bl t ≤ 64 := (aT _ _).2 ht;have hb0 : 0 < bl t := by rw [iE (by omega)]; omega
 have hn := vB (y := t) (by omega) hb;have hmul : (t + 1) * 2 ^ (64 - bl t) ≤ W64 := by
  have h1 : t < 2 ^ bl t := (aT _ _).1 (Nat.le_refl _);have e1 : W64 = 2 ^ bl t * 2 ^ (64 - bl t) := (by rw [← Nat.pow_add, show bl t + (64 - bl t) = 64 by omega]; rfl);rw [e1];exact Nat.mul_le_mul_right _ h1
 have hf : 0 < 2 ^ (64 - bl t) := Nat.pow_pos (by decide);refine ⟨hb, by omega, ?_, ?_⟩
 ·rw [Nat.pow_succ];exact aDs (h := 9223372036854775808) rfl (Nat.le_trans (by decide) hn.1)
 ·have hlo : W64 ^ k ≤ (L + W64 ^ k * t) * 2 ^ (64 - bl t) := by
   have h1 : W64 ^ k * 1 ≤ W64 ^ k * (t * 2 ^ (64 - bl t)) := Nat.mul_le_mul_left _ (Nat.mul_pos (by omega) hf);rw [Nat.add_mul, Nat.mul_assoc];omega
  have hhi : (L + W64 ^ k * t) * 2 ^ (64 - bl t) < W64 ^ (k + 1) := by
   have h1 : (L + W64 ^ k * t) * 2 ^ (64 - bl t) < (W64 ^ k + W64 ^ k * t) * 2 ^ (64 - bl t) := (Nat.mul_lt_mul_right hf).2 (by omega);have h2 : (W64 ^ k + W64 ^ k * t) * 2 ^ (64 - bl t) = W64 ^ k * ((t + 1) * 2 ^ (64 - bl t)) := by
    rw [← Nat.mul_assoc, Nat.mul_add, Nat.mul_one, Nat.add_comm]
   have h3 := Nat.mul_le_mul_left (W64 ^ k) hmul;rw [Nat.pow_succ];omega
  have a := (aD aB _ (k + 1)).2 hhi;have b := aD aB ((L + W64 ^ k * t) * 2 ^ (64 - bl t)) k;omega
def aEp (M N : Nat) (w : World) (e : Ending) (w' : World) : Prop := ∃ u v, e = .returned (.tuple #[u, v]) ∧ Nm w' u (M / N) ∧ Nm w' v (M % N) ∧ Q w w' ∧ Nw w.heap.size u ∧ Nw w.heap.size v
set_option maxRecDepth 100000 in
theorem mH (N M : Nat) (x y : Value) (w : World) (hx : Nm w x N) (hy : Nm w y M) (hM0 : 0 < M) (hB : 4 * (dg W64 N + dg W64 M) + 60 ≤ LIM) :
  Calls Tryz.prog 176 #[x, y] w (aEp N M w) := by
 have hB' := hB;rw [aA] at hB';rcases Nat.lt_or_ge N M with hlt | hge
 ·have hcmp := Lib.hid (fQ hlt);have hres : N / M = 0 ∧ N % M = N := ⟨Nat.div_eq_of_lt hlt, Nat.mod_eq_of_lt hlt⟩
  have HRES := Lib.hid hres; clear hres hlt;obtain ⟨A, k, c, rfl⟩ := hx.form;obtain ⟨B, j, d, rfl⟩ := hy.form;go_enter Tryz.func176, Tryz.ntmps176
  go_wp2_with fail
  refine (aZ _ _ N M _ hx hy (by rw [aA]; omega) (by rw [aA]; omega)).mono ?_;rintro e w1 ⟨rfl, hq1⟩;rw [hcmp.out];go_wp2_with fail
  refine (vK _ N _ (hx.q hq1) (by rw [aA]; omega)).mono ?_;rintro e w2 ⟨v, rfl, hv, hq2, hnv⟩;go_wp2_with fail
  go_ret2
  exact ⟨_, _, rfl, by rw [HRES.out.1]; exact Nm.zero _ _, by rw [HRES.out.2]; exact hv, hq1.trans hq2, Nw.nil, hnv.more hq1.size⟩
 ·have hcmp : ∃ z : Int, cmp N M = z ∧ 0 ≤ z := by
   rcases Nat.eq_or_lt_of_le hge with h | h
   ·exact ⟨0, by rw [h]; exact cmp_eq _, by omega⟩
   ·exact ⟨1, gT h, by omega⟩
  obtain ⟨z, hz, hz0⟩ := hcmp;have hz1 : ¬ z < 0 := (by omega);have hcmp := Lib.hid hz;clear hz hge hz0;have hx0 := hx; have hy0 := hy;obtain ⟨A, c, xs, rfl, hc, rx, wx, hvx⟩ := hx;obtain ⟨B, d, ys, rfl, hd, ry, wy, hvy⟩ := hy;have hlx := wx.len aB;have hly := wy.len aB;rw [hvx] at hlx;rw [hvy] at hly;have hn0 : 0 < ys.length := by
   rw [hly];rcases Nat.eq_zero_or_pos (dg W64 M) with h | h
   ·have := aW aB h; omega
   ·exact h
  obtain ⟨n, hn⟩ : ∃ n, ys.length = n + 1 := ⟨ys.length - 1, by omega⟩
  obtain ⟨t, e1, t1, t2, t3, t4, t5, t6⟩ := aDt hn wy;rw [hvy] at t5 t6;obtain ⟨l, hl⟩ : ∃ l, xs.length = l := ⟨_, rfl⟩
  have HV := Lib.hid (And.intro hvx hvy);have HL := Lib.hid hl; have HN := Lib.hid hn;rw [hn] at hy0 hd hly ⊢;rw [hl] at hx0 hc hlx ⊢;have HLX := Lib.hid hlx; have HLY := Lib.hid hly;rw [← hlx, ← hly] at hB';clear hl hn hvx hvy hlx hly hn0;rcases Nat.eq_zero_or_pos n with h0 | h0
  ·subst h0;obtain ⟨b, o, rfl, hcy⟩ := ry.opt e1;rw [Nat.add_zero] at hcy;have hM : M = t := by
    have := HV.out.2;obtain ⟨a, ha⟩ : ∃ a, ys = [a] := by
     match ys, HN.out with
     | [a], _ => exact ⟨a, rfl⟩
    subst ha;simp at e1;simp [vl] at this;omega
   have hmk := iH l (l : Int) rfl (by rw [aA]; omega);go_enter Tryz.func176, Tryz.ntmps176
   go_wp2_with fail
   refine (aZ _ _ N M _ hx0 hy0 (by rw [← HLX.out, aA]; omega) (by rw [← HLY.out, aA]; omega)).mono ?_;rintro e w1 ⟨rfl, hq1⟩;rw [hcmp.out];have hqa := hq1.alloc (.cells (zs .u64 l) 140);obtain ⟨_, _, hA, hc2⟩ := (ry.q hqa).opt e1;cases hA;rw [Nat.add_zero] at hc2;have hs1 := hq1.size;go_wp2_with fail
   refine (jQ (some ⟨w1.heap.size, 0, none⟩) A l l l c w1.heap.size 140 0 t xs (List.replicate l 0) _ (Blk.made _ _ _) HL.out (by simp) (fun _ => rfl) (Nat.le_refl _) (Nat.le_refl _) hc (by omega) (Src.old rx hqa hs1) wx.1 t1 t2).mono ?_;rintro e w3 ⟨oo, rfl, lo, ho, hv, hb3, hg3⟩;rw [HV.out.1] at hv;have e3 : (List.replicate l 0).take 0 ++ oo ++ (List.replicate l 0).drop (0 + l) = oo := (by simp);rw [e3] at hb3;have hrt : vl W64 xs % t < W64 := Nat.lt_trans (Nat.mod_lt _ t2) t1;rw [HV.out.1] at hrt ⊢;have hq3 := Q.gr hqa hg3 hs1;have LO := Lib.hid lo; have HVV := Lib.hid hv; have HRT := Lib.hid hrt;clear lo hv e3 hrt;obtain ⟨rr, hrr⟩ : ∃ rr, N % t = rr := ⟨_, rfl⟩
   have HRR := Lib.hid hrr;rw [hrr];clear hrr;go_wp2_with fail
   refine (fH _ l l oo _ LO.out (Nat.le_refl _) (by omega) (Rw.of_blk hb3) ho).mono ?_;rintro e w4 ⟨u, rfl, hu, hnu, rfl⟩;rw [HVV.out] at hu;go_wp2_with fail
   refine (fB (rr : Int) rr _ rfl (by rw [← HRR.out]; exact HRT.out)).mono ?_;rintro e w5 ⟨v, rfl, hv, hq5, hnv⟩;go_wp2_with fail
   go_ret2
   exact ⟨u, v, rfl, by rw [hM]; exact hu.q hq5, by rw [hM, HRR.out]; exact hv, hq3.trans hq5, hnu _ (Nw.at_ hs1), hnv.more hq3.size⟩
  ·have h1 : ((n : Int) + 1 == 1) = false := (by rw [beq_eq_false_iff_ne]; omega);obtain ⟨b, o, rfl, hcy⟩ := ry.opt e1;obtain ⟨s, hs⟩ : ∃ s, 64 - bl t = s := ⟨_, rfl⟩
   rw [hs] at t4 t5 t6;have HS := Lib.hid hs; clear hs;have T5 := Lib.hid t5; have T6 := Lib.hid t6;have hf : 0 < 2 ^ s := Nat.pow_pos (by decide);have hfW : 2 ^ s ≤ W64 := Nat.pow_le_pow_right (n := 2) (by decide) (show s ≤ 64 by omega);have hN1 : dg W64 (N * 2 ^ s) ≤ l + 1 := by
    rw [aD aB, Nat.pow_succ];have h5 := aM aB N;rw [← HLX.out] at h5;exact Nat.lt_of_lt_of_le ((Nat.mul_lt_mul_right hf).2 h5) (Nat.mul_le_mul_left _ hfW)
   have hsd := aBR (x := N) (y := M) hf rfl rfl;have HSD := Lib.hid hsd;have hrest : dg W64 (N * 2 ^ s % (M * 2 ^ s)) ≤ dg W64 (N * 2 ^ s) := dg_rest' aB;have hs64 : s / 64 = 0 := (by omega);clear t5 t6 hfW hsd hf t3;go_enter Tryz.func176, Tryz.ntmps176
   go_wp2_with fail
   refine (aZ _ _ N M _ hx0 hy0 (by rw [← HLX.out, aA]; omega) (by rw [← HLY.out, aA]; omega)).mono ?_;rintro e w1 ⟨rfl, hq1⟩;rw [hcmp.out];obtain ⟨_, _, hA, hc2⟩ := (ry.q hq1).opt e1;cases hA;go_wp2_with fail
   refine (iY t _ t1).mono ?_;rintro e w2 ⟨rfl, rfl⟩;rw [HS.out];go_wp2_with fail
   refine (cB _ N s _ _ (hx0.q hq1) rfl (by rw [← HLX.out, aA]; omega) (by omega)).mono ?_;rintro e w3 ⟨xv, rfl, hxv, hq3, -⟩;go_wp2_with fail
   refine (cB _ M s _ _ ((hy0.q hq1).q hq3) rfl (by rw [← HLY.out, aA]; omega) (by omega)).mono ?_;rintro e w4 ⟨yv, rfl, hyv, hq4, -⟩;go_wp2_with fail
   refine (ds (N * 2 ^ s) (M * 2 ^ s) _ _ _ (hxv.q hq4) hyv (by rw [T6.out]; omega) (by rw [T6.out]; exact T5.out) (by rw [T6.out, aA]; omega)).mono ?_;rintro e w5 ⟨u, v, rfl, hu, hv, hq5, hnu⟩;go_wp2_with fail
   refine (bT _ _ s _ _ hv rfl (by rw [aA]; omega) (by omega)).mono ?_;rintro e w6 ⟨v2, rfl, hv2, hq6, hnv⟩;have hq := ((hq1.trans hq3).trans hq4)
   go_wp2_with fail
   go_ret2
   obtain ⟨g1, g2⟩ := HSD.out;exact ⟨u, v2, rfl, by rw [g1]; exact hu.q hq6, by rw [g2]; exact hv2, (hq.trans hq5).trans hq6, hnu.more hq.size, hnv.more (hq.trans hq5).size⟩
theorem nG {M : Nat} (hM : 0 < M) (h : tz M + 1 = bl M) : M = 2 ^ tz M := by
 have h1 := eQ hM;obtain ⟨b0, b1, b2⟩ := kH hM;have h3 : bl M - 1 = tz M := by omega
 rw [h3] at b1;rw [← h, Nat.pow_succ] at b2;have hp : 0 < 2 ^ tz M := Nat.pow_pos (by decide);obtain ⟨P, hP⟩ : ∃ P, 2 ^ tz M = P := ⟨_, rfl⟩
 rw [hP] at h1 b1 b2 hp ⊢;have h4 : M / P < 2 := by rw [Nat.div_lt_iff_lt_mul hp]; omega
 obtain ⟨q, hq⟩ : ∃ q, M / P = q := ⟨_, rfl⟩
 rw [hq] at h1 h4;have h5 : q = 1 := by have := h1.2; omega
 have h6 := h1.1;rw [h5, Nat.mul_one] at h6;exact h6
set_option maxRecDepth 100000 in
theorem wQ (N M : Nat) (x y : Value) (w : World) (hT : Tb w) (hx : Nm w x N) (hy : Nm w y M) (hM0 : 0 < M) (hB : 4 * (dg W64 N + dg W64 M) + 60 ≤ LIM) :
  Calls Tryz.prog 136 #[x, y] w fun e w' => ∃ v, e = .returned v ∧ Nm w' v (N / M) ∧ Q w w' ∧ ∀ B, B ≤ w.heap.size → Nw B x → Nw B v := by
 have hB' := hB;rw [aA] at hB';have hbl : bl M ≤ 64 * dg W64 M := gM 64 M (by decide);have htz := fK hM0;go_enter Tryz.func136, Tryz.ntmps136
 go_wp2_with fail
 refine (vJ _ M _ hy).mono ?_;rintro e w1 ⟨rfl, rfl⟩;by_cases h1 : M = 1
 ·rw [decide_eq_true h1];obtain ⟨A, k, c, rfl⟩ := hx.form;go_wp2_with fail
  go_ret
  exact ⟨_, rfl, by rw [h1, Nat.div_one]; exact hx, Q.refl _, fun _ _ h => h⟩
 ·rw [decide_eq_false h1];go_wp2_with fail
  refine (fI _ M _ hT hy (by rw [aA]; omega) hM0).mono ?_;rintro e w2 ⟨rfl, rfl⟩;by_cases h2 : tz M + 1 = bl M
  ·rw [decide_eq_true h2];have HP : Hid (M = 2 ^ tz M) := Lib.hid (nG hM0 h2);go_wp2_with fail
   refine (bH _ M _ hT hy (by rw [aA]; omega) hM0).mono ?_;rintro e w3 ⟨rfl, rfl⟩;go_wp2_with fail
   refine (bT _ N (tz M) _ _ hx rfl (by rw [aA]; omega) (by omega)).mono ?_;rintro e w4 ⟨v, rfl, hv, hq, hn⟩;have hv : Nm w4 v (N / M) := (by rw [HP.out]; exact hv);go_wp2_with fail
   go_ret
   exact ⟨v, rfl, hv, hq, fun B hB _ => hn.more hB⟩
  ·rw [decide_eq_false h2];go_wp2_with fail
   refine (mH N M _ _ _ hx hy hM0 hB).mono ?_;rintro e w3 ⟨u, v, rfl, hu, hv, hq, hnu, hnv⟩;go_wp2_with fail
   go_ret
   exact ⟨u, rfl, hu, hq, fun B hB _ => hnu.more hB⟩
set_option maxRecDepth 100000 in
theorem nA (x q : Nat) (w : World) (h : x < W64) (h0 : 0 < x) (hT : Tb w) (hq : x / 2 ^ tz x = q) :
  Calls Tryz.prog 188 #[.int .u64 (x : Int)] w fun e w' => e = .returned (.int .u64 (q : Int)) ∧ w' = w := by
 have htz : tz x < 64 := Nat.lt_of_lt_of_le (fK h0) ((aT _ _).2 h);have f1 : (x : Int) / 2 ^ tz x = (q : Int) := by rw [← fJ, ← Int.natCast_ediv, hq]
 have H := Lib.hid h;clear hq h;go_enter Tryz.func188, Tryz.ntmps188
 go_wp2_with fail
 refine (kT x _ H.out h0 hT).mono ?_;rintro e w1 ⟨rfl, rfl⟩;go_wp2_with fail
 go_ret
 exact ⟨rfl, rfl⟩
set_option maxRecDepth 100000 in
theorem qI (x y : Nat) (w : World) (hx : x < W64) (hy : y < W64) (ox : x % 2 = 1) (oy : y % 2 = 1) (hT : Tb w) :
  Calls Tryz.prog 146 #[.int .u64 (x : Int), .int .u64 (y : Int)] w fun e w' => e = .returned (.int .u64 ((Nat.gcd x y : Nat) : Int)) ∧ w' = w := by
 go_enter Tryz.func146, Tryz.ntmps146
 go_wp2_with fail
 go_loopw [0, 1] (fun av bv w1 => ∃ a b : Nat, av = .int .u64 (a : Int) ∧ bv = .int .u64 (b : Int) ∧ Hid (a < W64 ∧ b < W64 ∧ a % 2 = 1 ∧ b % 2 = 1 ∧ Nat.gcd a b = Nat.gcd x y) ∧ w1 = w) (fun av bv _ => (intOf av).toNat + (intOf bv).toNat)
 case atStart => exact ⟨x, y, rfl, rfl, Lib.hid ⟨hx, hy, ox, oy, rfl⟩, rfl⟩
 case round =>
  obtain ⟨a, b, rfl, rfl, hh, rfl⟩ := hrel;obtain ⟨ha, hb, oa, ob, hg⟩ := hh.out;rcases Nat.lt_trichotomy a b with hlt | rfl | hlt
  ·have h1 : ((a : Int) == (b : Int)) = false := (by rw [beq_eq_false_iff_ne]; omega);have h2 : (a : Int) < (b : Int) := (by omega);obtain ⟨s1, s2, s3⟩ := sO ob oa hlt;obtain ⟨d, hd⟩ : ∃ d, b - a = d := ⟨_, rfl⟩
   have h3 : (b : Int) - (a : Int) = (d : Int) := (by omega);rw [hd] at s1 s2 s3;obtain ⟨q, hq⟩ : ∃ q, d / 2 ^ tz d = q := ⟨_, rfl⟩
   rw [hq] at s1 s2 s3;have hd0 : 0 < d := (by omega);have hdW : d < W64 := (by omega);have hw : IntKind.u64.wrap (d : Int) = (d : Int) := aJ (by rw [aU] at hdW; exact hdW);have HQ := Lib.hid hq; have HD := Lib.hid hdW;have HN : Hid (q < W64 ∧ a < W64 ∧ q % 2 = 1 ∧ a % 2 = 1 ∧ Nat.gcd q a = Nat.gcd x y) := Lib.hid ⟨by omega, ha, s2, oa, by rw [s1, Nat.gcd_comm, hg]⟩;clear hq hdW s1 s2 ha hb oa ob hg hx hy;go_wp2_with fail
   refine (nA d q _ HD.out hd0 hT HQ.out).mono ?_;rintro e w2 ⟨rfl, rfl⟩;go_wp2_with fail
   exact ⟨⟨q, a, rfl, rfl, HN, trivial⟩, by simp only [intOf]; omega⟩
  ·have h1 : ((a : Int) == (a : Int)) = true := (by rw [beq_iff_eq]);have hs : a = Nat.gcd x y := (by rw [← hg, Nat.gcd_self]);clear hh hg ha hb oa ob;go_wp2_with fail
   go_ret
   exact ⟨by rw [← hs]; rfl, rfl⟩
  ·have h1 : ((a : Int) == (b : Int)) = false := (by rw [beq_eq_false_iff_ne]; omega);have h2 : ¬ (a : Int) < (b : Int) := (by omega);obtain ⟨s1, s2, s3⟩ := sO oa ob hlt;obtain ⟨d, hd⟩ : ∃ d, a - b = d := ⟨_, rfl⟩
   have h3 : (a : Int) - (b : Int) = (d : Int) := (by omega);rw [hd] at s1 s2 s3;obtain ⟨q, hq⟩ : ∃ q, d / 2 ^ tz d = q := ⟨_, rfl⟩
   rw [hq] at s1 s2 s3;have hd0 : 0 < d := (by omega);have hdW : d < W64 := (by omega);have hw : IntKind.u64.wrap (d : Int) = (d : Int) := aJ (by rw [aU] at hdW; exact hdW);have HQ := Lib.hid hq; have HD := Lib.hid hdW;have HN : Hid (q < W64 ∧ b < W64 ∧ q % 2 = 1 ∧ b % 2 = 1 ∧ Nat.gcd q b = Nat.gcd x y) := Lib.hid ⟨by omega, hb, s2, ob, by rw [s1, hg]⟩;clear hq hdW s1 s2 ha hb oa ob hg hx hy;go_wp2_with fail
   refine (nA d q _ HD.out hd0 hT HQ.out).mono ?_;rintro e w2 ⟨rfl, rfl⟩;go_wp2_with fail
   exact ⟨⟨q, b, rfl, rfl, HN, trivial⟩, by simp only [intOf]; omega⟩
end Go.Proofs.YtgpacgadpnpjjaaGreatDoor
