/- ValueIncludes (a part of the proof): results of numbers are in the results of their spans. No condition. -/
import Derived.Test.YtgpacgadpnpjjaaGreatDoorQn12
set_option maxHeartbeats 1000000
set_option maxRecDepth 100000
namespace Go.Proofs.YtgpacgadpnpjjaaGreatDoor
open Go.RowKit
open Ma Me
theorem Me.Nm.one' {w : World} {A : Option Addr} {c R : Nat} (h : Nm w (.slice A 1 c) R) : ∃ g o, A = some ⟨g, o, none⟩ ∧ g < w.heap.size ∧ w.cell? ⟨g, o, none⟩ = some (.int .u64 (R : Int)) := by
 obtain ⟨A', c', ws, h1, h2, h3, h4, h5⟩ := h;injection h1 with e1 e2 e3;subst e1
 match ws, e2 with
 | [a], _ =>
   simp [vl] at h5;subst h5;obtain ⟨b, o, e, hb, h6⟩ := h3.head (by simp);exact ⟨b, o, e, hb, h6⟩
theorem wR (N M : Nat) (x y : Value) (w : World) (hT : Tb w) (hx : Nm w x N) (hy : Nm w y M) (hN0 : 0 < N) (hM0 : 0 < M) (hB : 8 * (dg W64 N + dg W64 M) + 80 ≤ LIM) :
  Calls Tryz.prog 75 #[x, y] w (fU (Nat.gcd N M) w) := by
 have hB' := hB;rw [aA] at hB';obtain ⟨A, c, rfl, hc⟩ := hx.parts;obtain ⟨B, d, rfl, hd⟩ := hy.parts;have htn := fK hN0;have htm := fK hM0;have hbn : bl N ≤ 64 * dg W64 N := gM 64 N (by decide);have hbm : bl M ≤ 64 * dg W64 M := gM 64 M (by decide);have sN := eQ hN0;have sM := eQ hM0;have hG := iT hN0 hM0;obtain ⟨sh, hsh⟩ : ∃ sh, min (tz N) (tz M) = sh := ⟨_, rfl⟩
 have hmin : min (tz N : Int) (tz M : Int) = (sh : Int) := by omega
 rw [hsh] at hG;have hshN : sh ≤ tz N := by omega
 have qN : N / 2 ^ tz N ≤ N := Nat.div_le_self _ _;have qM : M / 2 ^ tz M ≤ M := Nat.div_le_self _ _;have dN : dg W64 (N / 2 ^ tz N) ≤ dg W64 N := aR aB qN;have dM : dg W64 (M / 2 ^ tz M) ≤ dg W64 M := aR aB qM;have hpN : tz N + 1 = bl N → Nat.gcd N M = 2 ^ sh := fun h => by
  rw [← hsh]; refine wD hN0 hM0 (Or.inl ?_);have := nG hN0 h;rw [← this]; exact Nat.div_self hN0
 have hpM : tz M + 1 = bl M → Nat.gcd N M = 2 ^ sh := fun h => by
  rw [← hsh]; refine wD hN0 hM0 (Or.inr ?_);have := nG hM0 h;rw [← this]; exact Nat.div_self hM0
 obtain ⟨N', hN'⟩ : ∃ q, N / 2 ^ tz N = q := ⟨_, rfl⟩
 obtain ⟨M', hM'⟩ : ∃ q, M / 2 ^ tz M = q := ⟨_, rfl⟩
 rw [hN'] at sN hG qN dN;rw [hM'] at sM hG qM dM;have hfN : (N : Int) / 2 ^ tz N = (N' : Int) := by rw [← fJ, ← Int.natCast_ediv, hN']
 have hfM : (M : Int) / 2 ^ tz M = (M' : Int) := by rw [← fJ, ← Int.natCast_ediv, hM']
 have HN' := Lib.hid hN'; have HM' := Lib.hid hM'; have SN := Lib.hid sN; have SM := Lib.hid sM; have HG := Lib.hid hG;have HPN := Lib.hid hpN; have HPM := Lib.hid hpM;clear hN' hM' sN sM hG hpN hpM hsh;obtain ⟨ln, hln⟩ : ∃ ln, dg W64 N = ln := ⟨_, rfl⟩
 obtain ⟨lm, hlm⟩ : ∃ lm, dg W64 M = lm := ⟨_, rfl⟩
 have HLN := Lib.hid hln; have HLM := Lib.hid hlm;rw [hln] at hx hc hB' hbn dN ⊢;rw [hlm] at hy hd hB' hbm dM ⊢;clear hln hlm;by_cases p1 : tz N + 1 = bl N
 ·have hg := HPN.out p1;have HGP := Lib.hid hg;have P1 := Lib.hid (decide_eq_true p1);clear hg p1;go_enter Tryz.func75, Tryz.ntmps75
  go_wp2_with fail
  refine (bH _ N _ hT hx (by rw [HLN.out, aA]; omega) hN0).mono ?_;rintro e w1 ⟨rfl, rfl⟩;go_wp2_with fail
  refine (bH _ M _ hT hy (by rw [HLM.out, aA]; omega) hM0).mono ?_;rintro e w1 ⟨rfl, rfl⟩;go_wp2_with fail
  refine (fI _ N _ hT hx (by rw [HLN.out, aA]; omega) hN0).mono ?_;rintro e w1 ⟨rfl, rfl⟩;rw [P1.out];go_wp2_with fail
  refine (fB 1 1 _ rfl (by decide)).mono ?_;rintro e w2 ⟨v, rfl, hv, hq2, -⟩;go_wp2_with fail
  refine (cB _ 1 sh _ _ hv rfl (by rw [bZ aB, aA]; omega) (by omega)).mono ?_;rintro e w3 ⟨v2, rfl, hv2, hq3, hn3⟩;rw [Nat.one_mul, ← HGP.out] at hv2;go_wp2_with fail
  go_ret
  exact ⟨v2, rfl, hv2, hq2.trans hq3, hn3.more hq2.size⟩
 ·have P1 := Lib.hid (decide_eq_false p1);clear p1;by_cases p2 : tz M + 1 = bl M
  ·have hg := HPM.out p2;have HGP := Lib.hid hg;have P2 := Lib.hid (decide_eq_true p2);clear hg p2;go_enter Tryz.func75, Tryz.ntmps75
   go_wp2_with fail
   refine (bH _ N _ hT hx (by rw [HLN.out, aA]; omega) hN0).mono ?_;rintro e w1 ⟨rfl, rfl⟩;go_wp2_with fail
   refine (bH _ M _ hT hy (by rw [HLM.out, aA]; omega) hM0).mono ?_;rintro e w1 ⟨rfl, rfl⟩;go_wp2_with fail
   refine (fI _ N _ hT hx (by rw [HLN.out, aA]; omega) hN0).mono ?_;rintro e w1 ⟨rfl, rfl⟩;rw [P1.out];go_wp2_with fail
   refine (fI _ M _ hT hy (by rw [HLM.out, aA]; omega) hM0).mono ?_;rintro e w1 ⟨rfl, rfl⟩;rw [P2.out];go_wp2_with fail
   refine (fB 1 1 _ rfl (by decide)).mono ?_;rintro e w2 ⟨v, rfl, hv, hq2, -⟩;go_wp2_with fail
   refine (cB _ 1 sh _ _ hv rfl (by rw [bZ aB, aA]; omega) (by omega)).mono ?_;rintro e w3 ⟨v2, rfl, hv2, hq3, hn3⟩;rw [Nat.one_mul, ← HGP.out] at hv2;go_wp2_with fail
   go_ret
   exact ⟨v2, rfl, hv2, hq2.trans hq3, hn3.more hq2.size⟩
  ·have P2 := Lib.hid (decide_eq_false p2);clear p2;by_cases h1 : ln = 1
   ·by_cases h2 : lm = 1
    ·subst h1 h2;obtain ⟨ga, oa, rfl, hba, hca⟩ := hx.one';obtain ⟨gb, ob, rfl, hbb, hcb⟩ := hy.one';have hNW : N < W64 := by
      have h := aM aB N;rw [HLN.out, Nat.pow_one] at h; exact h
     have hMW : M < W64 := by
      have h := aM aB M;rw [HLM.out, Nat.pow_one] at h; exact h
     have htn64 : tz N < 64 := Nat.lt_of_lt_of_le htn ((aT _ _).2 hNW);have htm64 : tz M < 64 := Nat.lt_of_lt_of_le htm ((aT _ _).2 hMW);have hgle : Nat.gcd N M < W64 := Nat.lt_of_le_of_lt (Nat.gcd_le_left _ hN0) hNW;have hfg : IntKind.u64.wrap (((Nat.gcd N' M' : Nat) : Int) * 2 ^ sh) = ((Nat.gcd N M : Nat) : Int) := by
      rw [← fJ, ← Int.natCast_mul, Nat.mul_comm, ← HG.out];exact aJ hgle
     obtain ⟨gg, hgg⟩ : ∃ gg, Nat.gcd N' M' = gg := ⟨_, rfl⟩
     rw [hgg] at hfg;obtain ⟨gr, hgr⟩ : ∃ gr, Nat.gcd N M = gr := ⟨_, rfl⟩
     rw [hgr] at hfg hgle ⊢;have HGG := Lib.hid hgg;have hsh64 : sh < 64 := (by omega);have HW := Lib.hid (And.intro hNW (And.intro hMW hgle));clear hgg hgr hNW hMW hgle;go_enter Tryz.func75, Tryz.ntmps75
     go_wp2_with fail
     refine (bH _ N _ hT hx (by rw [HLN.out, aA]; omega) hN0).mono ?_;rintro e w1 ⟨rfl, rfl⟩;go_wp2_with fail
     refine (bH _ M _ hT hy (by rw [HLM.out, aA]; omega) hM0).mono ?_;rintro e w1 ⟨rfl, rfl⟩;go_wp2_with fail
     refine (fI _ N _ hT hx (by rw [HLN.out, aA]; omega) hN0).mono ?_;rintro e w1 ⟨rfl, rfl⟩;rw [P1.out];go_wp2_with fail
     refine (fI _ M _ hT hy (by rw [HLM.out, aA]; omega) hM0).mono ?_;rintro e w1 ⟨rfl, rfl⟩;rw [P2.out];go_wp2_with fail
     go_region_held3 (fun W => W.cell? ⟨ga, oa, none⟩ = some (.int .u64 (N : Int)) ∧ W.cell? ⟨gb, ob, none⟩ = some (.int .u64 (M : Int))) (first | exact ⟨hca, hcb⟩ | exact ⟨by assumption, by assumption⟩ | go_keep) (first
      | (go_at_call 146; refine (qI N' M' _ (by have := HW.out.1; omega) (by have := HW.out.2.1; omega) SN.out.2 SM.out.2 (by exact hT)).mono ?_; rintro e w2 ⟨rfl, rfl⟩; rw [HGG.out])
      | (go_at_call 132; refine (fB (gr : Int) gr _ rfl HW.out.2.2).mono ?_; rintro e w3 ⟨v, rfl, hv, hq3, hn3⟩; have k1 := (hq3.cell (p := ⟨ga, oa, none⟩) (by exact hba)).trans (by exact hca); have k2 := (hq3.cell (p := ⟨gb, ob, none⟩) (by exact hbb)).trans (by exact hcb)))
     all_goals
      go_wp2_with fail
      go_ret
      exact ⟨v, rfl, hv, (Q.refl w).drew.trans hq3, hn3⟩
    ·have h1' : ((ln : Int) == 1) = true := (by rw [h1]; rfl);have h2' : ((lm : Int) == 1) = false := (by rw [beq_eq_false_iff_ne]; omega);clear h1 h2;go_enter Tryz.func75, Tryz.ntmps75
     go_wp2_with fail
     refine (bH _ N _ hT hx (by rw [HLN.out, aA]; omega) hN0).mono ?_;rintro e w1 ⟨rfl, rfl⟩;go_wp2_with fail
     refine (bH _ M _ hT hy (by rw [HLM.out, aA]; omega) hM0).mono ?_;rintro e w1 ⟨rfl, rfl⟩;go_wp2_with fail
     refine (fI _ N _ hT hx (by rw [HLN.out, aA]; omega) hN0).mono ?_;rintro e w1 ⟨rfl, rfl⟩;rw [P1.out];go_wp2_with fail
     refine (fI _ M _ hT hy (by rw [HLM.out, aA]; omega) hM0).mono ?_;rintro e w1 ⟨rfl, rfl⟩;rw [P2.out];go_wp2_with fail
     refine (bT _ N (tz N) _ _ hx rfl (by rw [HLN.out, aA]; omega) (by omega)).mono ?_;rintro e w2 ⟨xv, rfl, hxv, hq2, -⟩;rw [HN'.out] at hxv;go_wp2_with fail
     refine (bT _ M (tz M) _ _ (hy.q hq2) rfl (by rw [HLM.out, aA]; omega) (by omega)).mono ?_;rintro e w3 ⟨yv, rfl, hyv, hq3, -⟩;rw [HM'.out] at hyv;have hxv := hxv.q hq3;obtain ⟨Ax, kx, cx, rfl⟩ := hxv.form;obtain ⟨Ay, ky, cy, rfl⟩ := hyv.form;rcases Nat.lt_or_ge N' M' with hlt | hge
     ·have hcmp := Lib.hid (fQ hlt);go_wp2_with fail
      refine (aZ _ _ N' M' _ hxv hyv (by rw [aA]; omega) (by rw [aA]; omega)).mono ?_;rintro e w4 ⟨rfl, hq4⟩;rw [hcmp.out];have hq := (hq2.trans hq3).trans hq4;go_wp2_with fail
      refine (iW M' N' _ _ _ (Tb.q hT hq) (hyv.q hq4) (hxv.q hq4) (Nat.le_of_lt hlt) (by have := SM.out.2; omega) SM.out.2 (by rw [aA]; omega)).mono ?_;rintro e w5 ⟨g, rfl, hg, hq5, -⟩;rw [Nat.gcd_comm] at hg;have hgd : dg W64 (Nat.gcd N' M') ≤ dg W64 N' := aR aB (Nat.gcd_le_left _ (by have := SN.out.2; omega));go_wp2_with fail
      refine (cB _ (Nat.gcd N' M') sh _ _ hg rfl (by rw [aA]; omega) (by omega)).mono ?_;rintro e w6 ⟨v2, rfl, hv2, hq6, hn6⟩;rw [Nat.mul_comm, ← HG.out] at hv2;go_wp2_with fail
      go_ret
      exact ⟨v2, rfl, hv2, (hq.trans hq5).trans hq6, hn6.more (hq.trans hq5).size⟩
     ·have hcmp : ∃ z : Int, cmp N' M' = z ∧ ¬ z < 0 := by
       rcases Nat.eq_or_lt_of_le hge with h | h
       ·exact ⟨0, by rw [h]; exact cmp_eq _, by omega⟩
       ·exact ⟨1, gT h, by omega⟩
      obtain ⟨z, hz, hz0⟩ := hcmp;have hcmp := Lib.hid hz; clear hz;go_wp2_with fail
      refine (aZ _ _ N' M' _ hxv hyv (by rw [aA]; omega) (by rw [aA]; omega)).mono ?_;rintro e w4 ⟨rfl, hq4⟩;rw [hcmp.out];have hq := (hq2.trans hq3).trans hq4;go_wp2_with fail
      refine (iW N' M' _ _ _ (Tb.q hT hq) (hxv.q hq4) (hyv.q hq4) hge (by have := SN.out.2; omega) SN.out.2 (by rw [aA]; omega)).mono ?_;rintro e w5 ⟨g, rfl, hg, hq5, -⟩;have hgd : dg W64 (Nat.gcd N' M') ≤ dg W64 N' := aR aB (Nat.gcd_le_left _ (by have := SN.out.2; omega));go_wp2_with fail
      refine (cB _ (Nat.gcd N' M') sh _ _ hg rfl (by rw [aA]; omega) (by omega)).mono ?_;rintro e w6 ⟨v2, rfl, hv2, hq6, hn6⟩;rw [Nat.mul_comm, ← HG.out] at hv2;go_wp2_with fail
      go_ret
      exact ⟨v2, rfl, hv2, (hq.trans hq5).trans hq6, hn6.more (hq.trans hq5).size⟩
   ·have h1' : ((ln : Int) == 1) = false := (by rw [beq_eq_false_iff_ne]; omega);clear h1;go_enter Tryz.func75, Tryz.ntmps75
    go_wp2_with fail
    refine (bH _ N _ hT hx (by rw [HLN.out, aA]; omega) hN0).mono ?_;rintro e w1 ⟨rfl, rfl⟩;go_wp2_with fail
    refine (bH _ M _ hT hy (by rw [HLM.out, aA]; omega) hM0).mono ?_;rintro e w1 ⟨rfl, rfl⟩;go_wp2_with fail
    refine (fI _ N _ hT hx (by rw [HLN.out, aA]; omega) hN0).mono ?_;rintro e w1 ⟨rfl, rfl⟩;rw [P1.out];go_wp2_with fail
    refine (fI _ M _ hT hy (by rw [HLM.out, aA]; omega) hM0).mono ?_;rintro e w1 ⟨rfl, rfl⟩;rw [P2.out];go_wp2_with fail
    refine (bT _ N (tz N) _ _ hx rfl (by rw [HLN.out, aA]; omega) (by omega)).mono ?_;rintro e w2 ⟨xv, rfl, hxv, hq2, -⟩;rw [HN'.out] at hxv;go_wp2_with fail
    refine (bT _ M (tz M) _ _ (hy.q hq2) rfl (by rw [HLM.out, aA]; omega) (by omega)).mono ?_;rintro e w3 ⟨yv, rfl, hyv, hq3, -⟩;rw [HM'.out] at hyv;have hxv := hxv.q hq3;obtain ⟨Ax, kx, cx, rfl⟩ := hxv.form;obtain ⟨Ay, ky, cy, rfl⟩ := hyv.form;rcases Nat.lt_or_ge N' M' with hlt | hge
    ·have hcmp := Lib.hid (fQ hlt);go_wp2_with fail
     refine (aZ _ _ N' M' _ hxv hyv (by rw [aA]; omega) (by rw [aA]; omega)).mono ?_;rintro e w4 ⟨rfl, hq4⟩;rw [hcmp.out];have hq := (hq2.trans hq3).trans hq4;go_wp2_with fail
     refine (iW M' N' _ _ _ (Tb.q hT hq) (hyv.q hq4) (hxv.q hq4) (Nat.le_of_lt hlt) (by have := SM.out.2; omega) SM.out.2 (by rw [aA]; omega)).mono ?_;rintro e w5 ⟨g, rfl, hg, hq5, -⟩;rw [Nat.gcd_comm] at hg;have hgd : dg W64 (Nat.gcd N' M') ≤ dg W64 N' := aR aB (Nat.gcd_le_left _ (by have := SN.out.2; omega));go_wp2_with fail
     refine (cB _ (Nat.gcd N' M') sh _ _ hg rfl (by rw [aA]; omega) (by omega)).mono ?_;rintro e w6 ⟨v2, rfl, hv2, hq6, hn6⟩;rw [Nat.mul_comm, ← HG.out] at hv2;go_wp2_with fail
     go_ret
     exact ⟨v2, rfl, hv2, (hq.trans hq5).trans hq6, hn6.more (hq.trans hq5).size⟩
    ·have hcmp : ∃ z : Int, cmp N' M' = z ∧ ¬ z < 0 := by
      rcases Nat.eq_or_lt_of_le hge with h | h
      ·exact ⟨0, by rw [h]; exact cmp_eq _, by omega⟩
      ·exact ⟨1, gT h, by omega⟩
     obtain ⟨z, hz, hz0⟩ := hcmp;have hcmp := Lib.hid hz; clear hz;go_wp2_with fail
     refine (aZ _ _ N' M' _ hxv hyv (by rw [aA]; omega) (by rw [aA]; omega)).mono ?_;rintro e w4 ⟨rfl, hq4⟩;rw [hcmp.out];have hq := (hq2.trans hq3).trans hq4;go_wp2_with fail
     refine (iW N' M' _ _ _ (Tb.q hT hq) (hxv.q hq4) (hyv.q hq4) hge (by have := SN.out.2; omega) SN.out.2 (by rw [aA]; omega)).mono ?_;rintro e w5 ⟨g, rfl, hg, hq5, -⟩;have hgd : dg W64 (Nat.gcd N' M') ≤ dg W64 N' := aR aB (Nat.gcd_le_left _ (by have := SN.out.2; omega));go_wp2_with fail
     refine (cB _ (Nat.gcd N' M') sh _ _ hg rfl (by rw [aA]; omega) (by omega)).mono ?_;rintro e w6 ⟨v2, rfl, hv2, hq6, hn6⟩;rw [Nat.mul_comm, ← HG.out] at hv2;go_wp2_with fail
     go_ret
     exact ⟨v2, rfl, hv2, (hq.trans hq5).trans hq6, hn6.more (hq.trans hq5).size⟩
theorem iZ (x : Value) (N n : Nat) (z : Int) (w : World) (hx : Nm w x N) (hz : z = (n : Int)) (h : n * dg W64 N + 9 ≤ LIM) (hn : n ≤ 4611686018427387904) :
  Calls Tryz.prog 180 #[x, .int .i64 z] w (fU (N ^ n) w) := by
 subst hz;obtain ⟨D, hD⟩ : ∃ D, dg W64 N = D := ⟨_, rfl⟩
 rw [hD] at h;go_enter Tryz.func180, Tryz.ntmps180
 go_wp2_with fail
 refine (fB 1 1 _ rfl (by decide)).mono ?_;rintro e w1 ⟨z0, rfl, hz0, hq0, hn0⟩;go_wp2_with fail
 go_loopw [0, 1, 5] (fun xv kv zv w1 => ∃ (k a e : Nat), kv = .int .i64 (k : Int) ∧ k ≤ n ∧ a + k * e = n ∧ 0 < e ∧ Nm w1 xv (N ^ e) ∧ Nm w1 zv (N ^ a) ∧ Nw w.heap.size zv ∧ Q w w1) (fun _ kv _ _ => (intOf kv).toNat)
 case atStart => exact ⟨n, 0, 1, rfl, Nat.le_refl _, by omega, by omega, by rw [Nat.pow_one]; exact hx.q hq0, hz0, hn0, hq0⟩
 case round =>
  obtain ⟨k, a, e, rfl, hk, ha, he0, hxv, hzv, hnv, hq⟩ := hrel;rcases Nat.eq_zero_or_pos k with rfl | hkp
  ·have ha : a = n := (by omega);subst ha;go_wp2_with fail
   go_ret
   exact ⟨_, rfl, hzv, hq, hnv⟩
  ·have r1 := aBI (D := D) ha hkp;have r2 := fun h2 => aBJ (D := D) (a := a) (k := k) (e := e) (n := n) ha h2;obtain ⟨k2, hk2⟩ : ∃ k2 : Nat, k / 2 = k2 := ⟨_, rfl⟩
   have hk2' : (k : Int) / 2 = (k2 : Int) := (by omega);have hk3 : k2 ≤ k := (by omega);have hk4 : k2 < k := (by omega);have hDe : dg W64 (N ^ e) ≤ e * D + 1 := (by rw [← hD]; exact Nat.le_trans (xS aB) (by split <;> omega));have hDa : dg W64 (N ^ a) ≤ a * D + 1 := (by rw [← hD]; exact Nat.le_trans (xS aB) (by split <;> omega));have hDe' : e ≠ 0 → dg W64 (N ^ e) ≤ e * D := fun he => (by rw [← hD]; exact Nat.le_trans (xS aB) (by rw [if_neg he]; omega));have hkne : k2 ≠ 0 → 0 < k / 2 := (by omega);rcases Nat.mod_two_eq_zero_or_one k with hm | hm
   ·have hm' : ((k : Int) % 2 == 1) = false := (by rw [beq_eq_false_iff_ne]; omega);have he := aBa ha hm;rw [hk2] at he r2;have HE := Lib.hid he;have hkp2 : 0 < k2 := (by omega);have r2 := r2 hkp2;clear he hk2 ha hm hkne;go_wp2_with fail
    refine (dP _ _ _ _ _ hxv hxv ?_).mono ?_
    ·rw [aA] at h ⊢;have := hDe' (by omega); omega
    rintro e1 w2 ⟨v, rfl, hv, hq2, _⟩;rw [← Nat.pow_add, ← Nat.two_mul] at hv;go_wp2_with fail
    exact ⟨⟨k2, a, 2 * e, rfl, by omega, HE.out, by omega, hv, hzv.q hq2, hnv, hq.trans hq2⟩, by simp [intOf]; omega⟩
   ·have hm' : ((k : Int) % 2 == 1) = true := (by rw [beq_iff_eq]; omega);have he := aBK ha hm;rw [hk2] at he r2;have HE := Lib.hid he;clear he ha hm;rcases Nat.eq_zero_or_pos k2 with rfl | hkp2
    ·clear hk2 hkne r2;go_wp2_with fail
     refine (dP _ _ _ _ _ hzv hxv ?_).mono ?_
     ·rw [aA] at h ⊢;have := hDe' (by omega); omega
     rintro e1 w2 ⟨v, rfl, hv, hq2, hn2⟩;rw [← Nat.pow_add] at hv;go_wp2_with fail
     exact ⟨⟨0, a + e, e, rfl, by omega, by have := HE.out; omega, he0, hxv.q hq2, hv, hn2.more hq.size, hq.trans hq2⟩, by simp [intOf]; omega⟩
    ·have r2 := r2 hkp2;clear hk2 hkne;go_wp2_with fail
     refine (dP _ _ _ _ _ hzv hxv ?_).mono ?_
     ·rw [aA] at h ⊢;have := hDe' (by omega); omega
     rintro e1 w2 ⟨v, rfl, hv, hq2, hn2⟩;rw [← Nat.pow_add] at hv;go_wp2_with fail
     refine (dP _ _ _ _ _ (hxv.q hq2) (hxv.q hq2) ?_).mono ?_
     ·rw [aA] at h ⊢;have := hDe' (by omega); omega
     rintro e1 w3 ⟨u, rfl, hu, hq3, _⟩;rw [← Nat.pow_add, ← Nat.two_mul] at hu;go_wp2_with fail
     exact ⟨⟨k2, a + e, 2 * e, rfl, by omega, HE.out, by omega, hu, hv.q hq3, hn2.more hq.size, (hq.trans hq2).trans hq3⟩, by simp [intOf]; omega⟩
theorem byte_at {s : ByteArray} {i : Nat} (h : i < s.size) : s.data.toList[i]? = some (s[i]'h) := by
 rw [List.getElem?_eq_getElem (by rw [Array.length_toList]; exact h)];rfl
theorem qJ (s : ByteArray) : s.data.toList.length = s.size := by rw [Array.length_toList]; rfl
theorem vN {l : List UInt8} {i : Nat} {c : UInt8} (h : aY (l.take i)) (hc : l[i]? = some c) (h1 : 48 ≤ c.toNat) (h2 : c.toNat ≤ 57) : aY (l.take (i + 1)) := by
 obtain ⟨hi, rfl⟩ := List.getElem?_eq_some_iff.1 hc;intro d hd;rw [List.take_add_one, List.getElem?_eq_getElem hi] at hd;rcases List.mem_append.1 hd with hd | hd
 ·exact h d hd
 ·simp at hd;rw [hd];exact ⟨h1, h2⟩
def jY (l : List UInt8) : Bool := decide (aY l ∧ l ≠ [])
theorem zG {l : List UInt8} {i : Nat} {c : UInt8} (hc : l[i]? = some c) (h : ¬ (48 ≤ c.toNat ∧ c.toNat ≤ 57)) : jY l = false := by
 obtain ⟨hi, rfl⟩ := List.getElem?_eq_some_iff.1 hc;exact decide_eq_false (fun h1 => h (h1.1 _ (List.getElem_mem hi)))
theorem aDx {l : List UInt8} (h : aY l) : jY l = !l.isEmpty := by
 unfold jY;cases l with
 | nil => simp
 | cons c r => simp [h]
set_option maxRecDepth 1000000 in
theorem jZ (s : ByteArray) (w : World) :
  Calls Tryz.prog 96 #[.string s] w fun e w' => e = .returned (.bool (jY s.data.toList)) ∧ Q w w' := by
 go_enter Tryz.func96, Tryz.ntmps96
 go_wp2_with fail
 go_loopw [4] (fun rv w' => ∃ pos : Nat, w' = w.iter s pos ∧ pos ≤ s.size ∧ Hid (aY (s.data.toList.take pos))) (fun _ w' => s.size - w'.iterPos w.heap.size)
 case atStart => exact ⟨0, rfl, by omega, Lib.hid (by intro c hc; simp at hc)⟩
 case round =>
  obtain ⟨pos, rfl, hpos, hall⟩ := hrel;by_cases hp : pos < s.size
  ·have hby := byte_at hp;by_cases ha : (s[pos]'hp).toNat < 128
   ·have hnx : ∀ ty, (Instr.next (.pointer (some ⟨w.heap.size, 0, none⟩)) true ty).run Tryz.prog (w.iter s pos) = _ := fun ty => run_next_ascii w s pos ty hp ha;generalize s[pos]'hp = b at *
    have HB := Lib.hid hby; clear hby;by_cases h1 : 48 ≤ b.toNat ∧ b.toNat ≤ 57
    ·have h2 : ¬ ((b.toNat : Int) < 48) := (by omega);have h3 : ¬ (57 < (b.toNat : Int)) := (by omega);have HN := Lib.hid (vN hall.out HB.out h1.1 h1.2);clear h1;go_wp2_with fail
     exact ⟨⟨pos + 1, rfl, by omega, HN⟩, by rw [World.iterPos_iter, World.iterPos_iter]; omega⟩
    ·have hf := Lib.hid (zG HB.out h1);rcases (show b.toNat < 48 ∨ 57 < b.toNat by omega) with h2 | h2
     ·have h3 : (b.toNat : Int) < 48 := (by omega);go_wp2_with fail
      go_ret
      exact ⟨by rw [hf.out]; rfl, (Q.refl w).alloc _⟩
     ·have h3 : ¬ (b.toNat : Int) < 48 := (by omega);have h4 : 57 < (b.toNat : Int) := (by omega);go_wp2_with fail
      go_ret
      exact ⟨by rw [hf.out]; rfl, (Q.refl w).alloc _⟩
   ·have hhi := decode_high s pos hp (by omega);have hf := Lib.hid (zG hby (by omega));have hnx : ∀ ty, (Instr.next (.pointer (some ⟨w.heap.size, 0, none⟩)) true ty).run Tryz.prog (w.iter s pos) = _ := fun ty => run_next_any w s pos ty hp;obtain ⟨r, hr⟩ : ∃ r, (Utf8.decode s pos).1 = r := ⟨_, rfl⟩
    obtain ⟨k, hk⟩ : ∃ k, (Utf8.decode s pos).2 = k := ⟨_, rfl⟩
    rw [hr, hk] at hnx;rw [hr] at hhi;have h3 : ¬ (r : Int) < 48 := (by omega);have h4 : 57 < (r : Int) := (by omega);clear hr hk hby ha;go_wp2_with fail
    go_ret
    exact ⟨by rw [hf.out]; rfl, (Q.refl w).alloc _⟩
  ·have hnx : ∀ ty, (Instr.next (.pointer (some ⟨w.heap.size, 0, none⟩)) true ty).run Tryz.prog (w.iter s pos) = _ := fun ty => run_next_end w s pos ty hp;have hal := hall.out;rw [List.take_of_length_le (by rw [qJ]; omega)] at hal;have HAL := Lib.hid hal; clear hal;go_wp2_with fail
   go_ret
   refine ⟨?_, (Q.refl w).alloc _⟩;show Ending.returned (.bool (!s.toList.isEmpty)) = _;rw [ByteArray.toList_eq];rw [aDx HAL.out]
theorem nS (n : Nat) (z : Int) (w : World) (hz : z = (n : Int)) (h : n + 9 ≤ LIM) : Calls Tryz.prog 161 #[.int .i64 z] w (fU (10 ^ n) w) := by
 subst hz;rw [aA] at h;have hd : dg W64 10 = 1 := by
  have h1 := (aD aB 10 1).2 (by decide);have h2 : ¬ dg W64 10 ≤ 0 := (by rw [aD aB]; decide);omega
 have HD := Lib.hid hd; clear hd;go_enter Tryz.func161, Tryz.ntmps161
 go_wp2_with fail
 refine (fB 10 10 _ rfl (by decide)).mono ?_;rintro e w1 ⟨v, rfl, hv, hq1, -⟩;go_wp2_with fail
 refine (iZ _ 10 n _ _ hv rfl (by rw [HD.out, aA]; omega) (by omega)).mono ?_;rintro e w2 ⟨v2, rfl, hv2, hq2, hn2⟩;go_wp2_with fail
 go_ret
 exact ⟨v2, rfl, hv2, hq1.trans hq2, hn2.more hq1.size⟩
theorem kR (x : Value) (N : Nat) (w : World) (hx : Nm w x N) (h : 100 * dg W64 N + 100 ≤ LIM) :
  Calls Tryz.prog 89 #[x] w fun e w' => e = .returned (.int .i64 (((dec N).length : Nat) : Int)) ∧ Q w w' := by
 rw [aA] at h;obtain ⟨A, c, rfl, hc⟩ := hx.parts;have hbl : bl N ≤ 64 * dg W64 N := gM 64 N (by decide);obtain ⟨l, hl⟩ : ∃ l, dg W64 N = l := ⟨_, rfl⟩
 have HL := Lib.hid hl;rw [hl] at hx hbl h hc ⊢;rcases Nat.eq_zero_or_pos N with h0 | h0
 ·subst h0;rw [aQ] at hl;subst hl;have e1 : (dec 0).length = 1 := (by rw [bE (by decide)]; rfl);rw [e1];clear HL e1;go_enter Tryz.func89, Tryz.ntmps89
  go_wp2_with fail
  go_ret
  exact ⟨rfl, Q.refl _⟩
 ·have hl0 : ((l : Int) == 0) = false := by
   rw [beq_eq_false_iff_ne];intro h1;have h2 : l = 0 := (by omega);have := aW aB (hl.trans h2);omega
  clear hl;have hb0 : 0 < bl N := (by rw [iE h0]; omega);obtain ⟨n, hn⟩ : ∃ n, bl N = n := ⟨_, rfl⟩
  rw [hn] at hbl hb0;obtain ⟨a, ha⟩ : ∃ a, (n - 1) * 5553023288523357132 / 18446744073709551616 = a := ⟨_, rfl⟩
  obtain ⟨a', ha'⟩ : ∃ a, (n - 1) * 5553023288523357132 % 18446744073709551616 = a := ⟨_, rfl⟩
  obtain ⟨b, hb⟩ : ∃ b, n * 5553023288523357133 / 18446744073709551616 = b := ⟨_, rfl⟩
  obtain ⟨b', hb'⟩ : ∃ b, n * 5553023288523357133 % 18446744073709551616 = b := ⟨_, rfl⟩
  obtain ⟨k1, k2⟩ := aBT h0 hn ha hb;have hbn : b ≤ n := (by rw [← hb]; omega);have e1 : (dec N).length = dg 10 N := (by rw [dU, if_neg (by omega)]);rw [e1];obtain ⟨D, hD⟩ : ∃ D, dg 10 N = D := ⟨_, rfl⟩
  rw [hD] at k1 k2 ⊢;have HN := Lib.hid hn; have HA := Lib.hid (And.intro ha ha'); have HB := Lib.hid (And.intro hb hb'); have HD := Lib.hid hD;clear hn ha ha' hb hb' hD e1;have i1 : (n : Int) - 1 = ((n - 1 : Nat) : Int) := (by omega);have hnW : n < 18446744073709551616 := (by omega);go_enter Tryz.func89, Tryz.ntmps89
  go_wp2_with fail
  refine (bO _ N _ hx (by rw [HL.out, aA]; omega)).mono ?_;rintro e w1 ⟨rfl, rfl⟩;rw [HN.out];go_wp2_with fail
  refine (mV (n - 1) 5553023288523357132 a a' (by rw [aU]; omega) (by decide) HA.out.1 HA.out.2 _).mono ?_;rintro e w1 ⟨rfl, rfl⟩;go_wp2_with fail
  refine (mV n 5553023288523357133 b b' (by rw [aU]; omega) (by decide) HB.out.1 HB.out.2 _).mono ?_;rintro e w1 ⟨rfl, rfl⟩;go_wp2_with fail
  go_loopw [8] (fun cv w1 => ∃ k : Nat, cv = .int .i64 (k : Int) ∧ a + 1 ≤ k ∧ k ≤ D ∧ Q w w1) (fun cv _ => D - (intOf cv).toNat)
  case atStart => exact ⟨a + 1, congrArg (Value.int _) (by omega), by omega, by omega, Q.refl _⟩
  case round =>
   obtain ⟨k, rfl, ka, kD, hq⟩ := hrel;rcases Nat.lt_or_ge k (b + 1) with hlt | hge
   ·have j1 : (k : Int) < (b : Int) + 1 := (by omega);have hpk : dg W64 (10 ^ k) ≤ k + 1 := by
     rw [aD aB];exact Nat.lt_of_le_of_lt (Nat.pow_le_pow_left (by decide) k) (Nat.pow_lt_pow_right aB (by omega))
    have hx1 := hx.q hq;have hlt := aBU (N := N) (k := k);rw [HD.out] at hlt;by_cases hkD : k < D
    ·have hcmp : ∃ z : Int, cmp N (10 ^ k) = z ∧ 0 ≤ z := by
      rcases Nat.eq_or_lt_of_le (hlt.1 hkD) with h | h
      ·exact ⟨0, by rw [h]; exact cmp_eq _, by omega⟩
      ·exact ⟨1, gT h, by omega⟩
     obtain ⟨z, hz, hz0⟩ := hcmp;have hcmp := Lib.hid hz; clear hz hlt;have hz1 : (0 : Int) ≤ z := hz0;go_wp2_with fail
     refine (nS k _ _ rfl (by rw [aA]; omega)).mono ?_;rintro e w2 ⟨v, rfl, hv, hq2, -⟩;go_wp2_with fail
     refine (aZ _ _ N (10 ^ k) _ (hx1.q hq2) hv (by rw [HL.out, aA]; omega) (by rw [aA]; omega)).mono ?_;rintro e w3 ⟨rfl, hq3⟩;rw [hcmp.out];have hq' := (hq.trans hq2).trans hq3;go_wp2_with fail
     exact ⟨⟨k + 1, congrArg (Value.int _) (by omega), by omega, by omega, hq'⟩, by simp [intOf]; omega⟩
    ·have hcmp : cmp N (10 ^ k) = -1 := fQ (by have := fun h => hkD (hlt.2 h); omega);have hcmp := Lib.hid hcmp; clear hlt;obtain rfl : k = D := (by omega);go_wp2_with fail
     refine (nS k _ _ rfl (by rw [aA]; omega)).mono ?_;rintro e w2 ⟨v, rfl, hv, hq2, -⟩;go_wp2_with fail
     refine (aZ _ _ N (10 ^ k) _ (hx1.q hq2) hv (by rw [HL.out, aA]; omega) (by rw [aA]; omega)).mono ?_;rintro e w3 ⟨rfl, hq3⟩;rw [hcmp.out];have hq' := (hq.trans hq2).trans hq3;go_wp2_with fail
     go_ret
     exact ⟨rfl, hq'⟩
   ·have j1 : ¬ (k : Int) < (b : Int) + 1 := (by omega);obtain rfl : k = D := (by omega);go_wp2_with fail
    go_ret
    exact ⟨rfl, hq⟩
structure Fd (l : List UInt8) (n pos j p u : Nat) (zs : List Nat) : Prop where
 lz : zs.length = n
 mz : ∀ d ∈ zs, d < W64
 val : dv (l.take pos) = vl W64 zs * u + p
 pu : p < u
 hu : u = 10 ^ j
 hj : j < 19
theorem Fd.fits {l : List UInt8} {n pos j p u : Nat} {zs : List Nat} (h : Fd l n pos j p u zs) (hl : aY l) (hn : l.length / 19 + 1 = n) : u * vl W64 zs + p < W64 ^ n := by
 have h1 := rD (hl.take pos);rw [h.val, Nat.mul_comm] at h1;have h2 : 10 ^ (l.take pos).length ≤ 10 ^ l.length := Nat.pow_le_pow_right (by decide) (by rw [List.length_take]; omega);have h3 := xY l.length;rw [hn] at h3;exact Nat.lt_of_lt_of_le h1 (Nat.le_trans h2 (Nat.le_of_lt h3))
theorem Fd.start {l : List UInt8} (n : Nat) : Fd l n 0 0 0 1 (List.replicate n 0) := ⟨by simp, cZ (by decide), by simp [iD, dv], by decide, rfl, by decide⟩
theorem Fd.digit {l : List UInt8} {n pos j p u d : Nat} {zs : List Nat} (h : Fd l n pos j p u zs) {c : UInt8} (hc : l[pos]? = some c) (hd : c.toNat - 48 = d) (hd9 : d < 10) :
  dv (l.take (pos + 1)) = vl W64 zs * (10 * u) + (10 * p + d) ∧ 10 * p + d < 10 * u ∧ 10 * u = 10 ^ (j + 1) ∧ 10 * u ≤ 10000000000000000000 := by
 obtain ⟨hi, rfl⟩ := List.getElem?_eq_some_iff.1 hc;have h1 := aBW h.val h.pu hd9;refine ⟨?_, h1.2, by rw [h.hu, Nat.pow_succ, Nat.mul_comm], ?_⟩
 ·rw [pU hi, hd]; exact h1.1
 ·have := h.hj;rw [h.hu, Nat.mul_comm, ← Nat.pow_succ];exact sF (by omega)
theorem Fd.flush {l : List UInt8} {n pos j p u c : Nat} {zs o : List Nat} (h : Fd l n pos j p u zs) (hl : aY l) (hn : l.length / 19 + 1 = n) (_ : o.length = n) (_ : ∀ d ∈ o, d < W64) (hv : vl W64 o + W64 ^ n * c = u * vl W64 zs + p) :
  vl W64 o = dv (l.take pos) := by
 have hf := h.fits hl hn;have hc : c = 0 := by
  rcases Nat.eq_zero_or_pos c with h0 | h0
  ·exact h0
  ·exfalso;have : W64 ^ n * 1 ≤ W64 ^ n * c := Nat.mul_le_mul_left _ h0;omega
 rw [hc, Nat.mul_zero, Nat.add_zero] at hv;rw [hv, h.val, Nat.mul_comm]
set_option maxRecDepth 1000000 in
theorem gK (s : ByteArray) (w : World) (hd : aY s.data.toList) (hs : s.size + 100 ≤ LIM) :
  Calls Tryz.prog 73 #[.string s] w (fU (dv s.data.toList) w) := by
 rw [aA] at hs;obtain ⟨n, hn⟩ : ∃ n, s.size / 19 + 1 = n := ⟨_, rfl⟩
 have hmk := iH n ((s.size : Int) / 19 + 1) (by omega) (by rw [aA]; omega);have hn' : s.data.toList.length / 19 + 1 = n := by rw [qJ]; exact hn
 have hnL : n ≤ 1099511627776 := by omega
 have HN := Lib.hid hn'; have HD := Lib.hid hd;have HM := Lib.hid hn;clear hn hn' hd;go_enter Tryz.func73, Tryz.ntmps73
 go_wp2_with fail
 have hq0 : Q w ((w.alloc (.cells (zs .u64 n) 140)).iter s 0) := ((Q.refl w).alloc _).alloc _;have hb0 : Blk .u64 ((w.alloc (.cells (zs .u64 n) 140)).iter s 0) w.heap.size 140 (List.replicate n 0) := (Blk.made w 140 n).alloc _;have hi0 : ((w.alloc (.cells (zs .u64 n) 140)).iter s 0).heap[w.heap.size + 1]? = some (.stringIter s 0) := by
  have h := World.iter_heap (w.alloc (.cells (zs .u64 n) 140)) s 0
  rwa [World.size_alloc] at h
 generalize (w.alloc (.cells (zs .u64 n) 140)).iter s 0 = w0 at *
 go_loopw [4, 5] (fun pv uv w1 => ∃ (pos j p u : Nat) (zs : List Nat), pv = .int .u64 (p : Int) ∧ uv = .int .u64 (u : Int) ∧ pos ≤ s.size ∧ Hid (Fd s.data.toList n pos j p u zs) ∧
     w1.heap[w.heap.size + 1]? = some (.stringIter s pos) ∧ Blk .u64 w1 w.heap.size 140 zs ∧ Q w w1) (fun _ _ w1 => s.size - w1.iterPos (w.heap.size + 1))
 case atStart => exact ⟨0, 0, 0, 1, _, rfl, rfl, by omega, Lib.hid (Fd.start n), hi0, hb0, hq0⟩
 case round =>
  obtain ⟨pos, j, p, u, zs, rfl, rfl, hpos, hfd, hit, hbz, hq⟩ := hrel;have so : Src wr w.heap.size 0 (some ⟨w.heap.size, 0, none⟩) zs := by
   have h := Src.own (off := 0) (n := n) hbz
   rwa [List.drop_zero, List.take_of_length_le (by rw [hfd.out.lz]; exact Nat.le_refl _)] at h
  have hu64 : u < W64 := (by rw [hfd.out.hu, aU]; have := sF (k := j) (by have := hfd.out.hj; omega); omega);have hp64 : p < W64 := Nat.lt_trans hfd.out.pu hu64;have hiter := iterPos_of hit;by_cases hp : pos < s.size
  ·have hby := byte_at hp;have hbd := HD.out _ (List.mem_of_getElem? hby);have hnx : ∀ ty, (Instr.next (.pointer (some ⟨w.heap.size + 1, 0, none⟩)) true ty).run Tryz.prog wr = _ := fun ty => Lib.run_next_ascii_at wr (w.heap.size + 1) s pos ty hit hp (by omega);have hitI := Lib.iterAt_heap wr (w.heap.size + 1) s pos (pos + 1) hit;have hbzI : Blk .u64 (wr.iterAt (w.heap.size + 1) s (pos + 1)) w.heap.size 140 zs := (Lib.iterAt_other wr (w.heap.size + 1) w.heap.size s (pos + 1) (by omega)).trans hbz;have hqI : Q w (wr.iterAt (w.heap.size + 1) s (pos + 1)) := Lib.below_iterAt hq (by omega) s (pos + 1);generalize s[pos]'hp = b at *
   obtain ⟨dd, hdd⟩ : ∃ dd, b.toNat - 48 = dd := ⟨_, rfl⟩
   obtain ⟨d1, d2, d3, d4⟩ := hfd.out.digit hby hdd (by omega);have i1 : (b.toNat : Int) - 48 = (dd : Int) := (by omega);have hdd9 : dd ≤ 9 := (by omega);obtain ⟨p1, hp1⟩ : ∃ q, 10 * p = q := ⟨_, rfl⟩
   obtain ⟨u2, hu2⟩ : ∃ q, 10 * u = q := ⟨_, rfl⟩
   rw [hp1] at d1 d2;rw [hu2] at d1 d2 d3 d4;obtain ⟨p2, hp2⟩ : ∃ q, p1 + dd = q := ⟨_, rfl⟩
   rw [hp2] at d1 d2;have i2 : 10 * (p : Int) = (p1 : Int) := (by omega);have i3 : 10 * (u : Int) = (u2 : Int) := (by omega);have i4 : (p1 : Int) + (dd : Int) = (p2 : Int) := (by omega);have i5 : IntKind.u64.wrap (p1 : Int) = (p1 : Int) := aJ (by omega);have i6 : IntKind.u64.wrap (u2 : Int) = (u2 : Int) := aJ (by omega);have i7 : IntKind.u64.wrap (p2 : Int) = (p2 : Int) := aJ (by omega);have i8 : IntKind.u64.wrap (dd : Int) = (dd : Int) := aJ (by omega);have hpW : p2 < W64 := (by rw [aU]; omega);have huW : u2 < W64 := (by rw [aU]; omega);have HB := Lib.hid (And.intro hby hbd);have HDG := Lib.hid (And.intro d1 (And.intro d2 d3));have HPU := Lib.hid (And.intro hpW huW);clear hby hdd d1 d2 d3 hp1 hu2 hp2 hbd hpW huW hu64 hp64 hit hbz hq so;generalize wr.iterAt (w.heap.size + 1) s (pos + 1) = wI at *
   by_cases hj : j + 1 < 19
   ·have hne : ((u2 : Int) == 10000000000000000000) = false := by
     rw [beq_eq_false_iff_ne];intro h;have h1 := HDG.out.2.2;have h2 : 10 ^ (j + 1) < 10 ^ 19 := Nat.pow_lt_pow_right (by decide) hj;have h3 : (10 : Nat) ^ 19 = 10000000000000000000 := (by decide);omega
    have HF : Hid (Fd s.data.toList n (pos + 1) (j + 1) p2 u2 zs) := Lib.hid ⟨hfd.out.lz, hfd.out.mz, HDG.out.1, HDG.out.2.1, HDG.out.2.2, hj⟩;have hiterI := iterPos_of hitI;go_wp2_with fail
    exact ⟨⟨pos + 1, j + 1, p2, u2, zs, rfl, rfl, by omega, HF, hitI, hbzI, hqI⟩, by rw [hiter, hiterI]; omega⟩
   ·have heq : ((u2 : Int) == 10000000000000000000) = true := by
     rw [beq_iff_eq];have h1 := HDG.out.2.2;have h0 := hfd.out.hj;have h3 : (10 : Nat) ^ 19 = 10000000000000000000 := (by decide);rw [show j + 1 = 19 by omega, h3] at h1;omega
    have soI : Src wI w.heap.size 0 (some ⟨w.heap.size, 0, none⟩) zs := by
     have h := Src.own (off := 0) (n := n) hbzI
     rwa [List.drop_zero, List.take_of_length_le (by rw [hfd.out.lz]; exact Nat.le_refl _)] at h
    go_wp2_with fail
    refine (qG (some ⟨w.heap.size, 0, none⟩) (some ⟨w.heap.size, 0, none⟩) n n n n w.heap.size 140 0 u2 p2 zs zs _ hbzI hfd.out.lz (by rw [hfd.out.lz]; omega) (fun _ => rfl) (Nat.le_refl _) (Nat.le_refl _) hnL soI hfd.out.mz HPU.out.2 HPU.out.1).mono ?_;rintro e w2 ⟨o, cy, rfl, -, lo, ho, hv, hb2, hg2⟩;have e2 : zs.take 0 ++ o ++ zs.drop (0 + n) = o := by
     rw [List.drop_of_length_le (by rw [hfd.out.lz]; omega)]; simp
    rw [e2] at hb2;have hfl : vl W64 o = dv (s.data.toList.take (pos + 1)) := by
     have hF : Fd s.data.toList n (pos + 1) 18 p2 u2 zs ∨ True := Or.inr trivial;have hfit : u2 * vl W64 zs + p2 < W64 ^ n := by
      have h1 := rD (HD.out.take (pos + 1));rw [HDG.out.1, Nat.mul_comm] at h1;have h2 : 10 ^ (s.data.toList.take (pos + 1)).length ≤ 10 ^ s.data.toList.length := Nat.pow_le_pow_right (by decide) (by rw [List.length_take]; omega);have h3 := xY s.data.toList.length;rw [HN.out] at h3;exact Nat.lt_of_lt_of_le h1 (Nat.le_trans h2 (Nat.le_of_lt h3))
     have hc : cy = 0 := by
      rcases Nat.eq_zero_or_pos cy with h0 | h0
      ·exact h0
      ·exfalso;have : W64 ^ n * 1 ≤ W64 ^ n * cy := Nat.mul_le_mul_left _ h0;omega
     rw [hc, Nat.mul_zero, Nat.add_zero] at hv;rw [hv, HDG.out.1, Nat.mul_comm]
    have HF : Hid (Fd s.data.toList n (pos + 1) 0 0 1 o) := Lib.hid ⟨lo, ho, by rw [hfl]; omega, by decide, rfl, by decide⟩;have hit2 := (Gr.heap hg2 (i := w.heap.size + 1) (by have := (Array.getElem?_eq_some_iff.1 hitI).1; exact this) (by omega)).trans hitI;have hq2 := Q.gr hqI hg2 (Nat.le_refl _);have hiter2 := iterPos_of hit2;clear e2 hfl hv lo;go_wp2_with fail
    exact ⟨⟨pos + 1, 0, 0, 1, o, rfl, rfl, by omega, HF, hit2, hb2, hq2⟩, by rw [hiter, hiter2]; omega⟩
  ·have hnx : ∀ ty, (Instr.next (.pointer (some ⟨w.heap.size + 1, 0, none⟩)) true ty).run Tryz.prog wr = _ := fun ty => Lib.run_next_end_at wr (w.heap.size + 1) s pos ty hit hp;go_wp2_with fail
   refine (qG (some ⟨w.heap.size, 0, none⟩) (some ⟨w.heap.size, 0, none⟩) n n n n w.heap.size 140 0 u p zs zs _ hbz hfd.out.lz (by rw [hfd.out.lz]; omega) (fun _ => rfl) (Nat.le_refl _) (Nat.le_refl _) hnL so hfd.out.mz hu64 hp64).mono ?_;rintro e w2 ⟨o, cy, rfl, -, lo, ho, hv, hb2, hg2⟩;have e2 : zs.take 0 ++ o ++ zs.drop (0 + n) = o := by
    rw [List.drop_of_length_le (by rw [hfd.out.lz]; omega)]; simp
   rw [e2] at hb2;have hfl := hfd.out.flush HD.out HN.out lo ho hv;rw [List.take_of_length_le (by rw [qJ]; omega)] at hfl;have HFL := Lib.hid hfl;have hq2 := Q.gr hq hg2 (Nat.le_refl _);clear e2 hfl hv;go_wp2_with fail
   refine (fH _ n n o _ lo (Nat.le_refl _) (by omega) (Rw.of_blk hb2) ho).mono ?_;rintro e w3 ⟨v, rfl, hnm, hnw, rfl⟩;rw [HFL.out] at hnm;go_wp2_with fail
   go_ret
   exact ⟨v, rfl, hnm, hq2, hnw _ (Nw.at_ (Nat.le_refl _))⟩
def Own (w : World) (base : Nat) (v : Value) (ds : List Nat) : Prop := w.ownsRow base 5 1 v ds.length (nums .u8 ds)
theorem aAL : (Tryz.prog.info? 5).map (fun i => (i.zero, i.size, i.bytes)) = some (some (.int .u8 0), 1, 1) := by kernel_rfl
theorem Own.form {w : World} {base : Nat} {v : Value} {ds : List Nat} (h : Own w base v ds) : ∃ A c, v = .slice A ds.length c := by
 rcases h.2 with ⟨h1, h2⟩ | ⟨g, cap, cur, h1, _⟩
 ·exact ⟨none, 0, by rw [h1, h2]⟩
 ·exact ⟨_, _, h1⟩
theorem Own.nil (w : World) (base : Nat) : Own w base (.slice none 0 0) [] := World.ownsRow_nil w base _ 1
theorem Own.kept {w w' : World} {base : Nat} {v : Value} {ds : List Nat} {r : Option Nat} (h : Own w base v ds) (hg : w.grownBy w' r) (hne : v.ownBlock = none ∨ v.ownBlock ≠ r) : Own w' base v ds := World.ownsRow.kept h hg hne
theorem Own.q {w w' : World} {base : Nat} {v : Value} {ds : List Nat} (h : Own w base v ds) (hq : Q w w') : Own w' base v ds :=
 World.ownsRow.kept (row := none) h ⟨hq.os, hq.tape, hq.output, hq.size, fun _ hk _ => hq.heap hk⟩ (by cases hv : v.ownBlock <;> simp)
theorem Own.lt {w : World} {base k : Nat} {v : Value} {ds : List Nat} (h : Own w base v ds) (hk : v.ownBlock = some k) : base ≤ k ∧ k < w.heap.size := World.ownsRow.lt h k hk
theorem Own.more {w : World} {base base' : Nat} {v : Value} {ds : List Nat} (h : Own w base v ds) (hb : base' ≤ base) : Own w base' v ds := by
 refine ⟨h.1, ?_⟩;rcases h.2 with h2 | ⟨g, cap, cur, a, b, c⟩
 ·exact .inl h2
 ·exact .inr ⟨g, cap, cur, a, by omega, c⟩
theorem kC {w1 : World} {ops : Array Oper} {rest : List Oper} {o : Oper} {a : Act} {Q : Exit → Act → World → Prop} (hgd : o.guard = none) (s x : Operand) (hop : o.op = Op.call { callee := Callee.builtin Builtin.append, args := #[s, x], argTypes := #[155, 155] })
  (base : Nat) (v : Value) (ds : List Nat) (hs : a.eval s = v) (hown : Own w1 base v ds) (y : Int) (d : Nat) (hy : y = (d : Int)) (hx : a.eval x = .slice (some ⟨w1.heap.size, 0, none⟩) 1 1)
  (hl : ds.length + 1 ≤ 70368744177664) (hb : base ≤ w1.heap.size)
  (hK : ∀ v' w', Own w' base v' (ds ++ [d]) → w1.grownBy w' v.ownBlock → (v'.ownBlock = v.ownBlock ∨ ∃ k, v'.ownBlock = some k ∧ w1.heap.size ≤ k) → wpList Tryz.prog ops Q rest (a.put o.dst v') w') :
  wpList Tryz.prog ops Q (o :: rest) a (w1.alloc (.cells #[.int .u8 y] 5)) := by
 subst hy;obtain ⟨i0, hi0, hz0, hz1, hz2⟩ := info_parts aAL;refine uE hgd s x _ hop base 5 i0 (.int .u8 0) 1 Tryz.underlying155 hi0 hz0 hz1 hz2 rfl v ds.length ds hs (World.ownsRow.alloc hown _) (w1.heap.size + 1) (some ⟨w1.heap.size, 0, none⟩) 1 1 [d] hx rfl
  ((Blk.new (κ := .u8) w1 5 [d]).rd (Nat.lt_succ_self _)) (by unfold maxLen; omega) (by omega) (by simp; omega) ?_
 intro v' w' h1 h2 h3;refine hK v' w' ?_ ?_ ?_
 ·unfold Own; rw [List.length_append]; exact h1
 ·refine World.grownBy.trans ?_ h2;exact ⟨rfl, rfl, rfl, by simp, fun k hk _ => by exact Below.heap_alloc w1 _ k hk⟩
 ·rcases h3 with h3 | h3
  ·exact Or.inl h3
  ·exact Or.inr ⟨_, h3, by simp⟩
theorem aDy (x : Value) (N : Nat) (w : World) (hx : Nm w x N) (hN : dg W64 N ≤ LIM) (h0 : 0 < N) : Calls Tryz.prog 211 #[x] w
  fun e w' => ∃ cs : List Nat, e = .returned (.slice (some ⟨w.heap.size, 0, none⟩) (dg W64 N) (dg W64 N)) ∧ Blk .u64 w' w.heap.size 140 cs ∧ cs.length = dg W64 N ∧ (∀ d ∈ cs, d < W64) ∧ vl W64 cs = N ∧ Q w w' := by
 obtain ⟨A, c, xs, rfl, hc, rx, wx, rfl⟩ := hx;rw [← wx.len aB] at hN ⊢;have hl0 : xs.length ≠ 0 := by
  intro h;rw [List.eq_nil_of_length_eq_zero h] at h0;simp [vl] at h0
 have h1 : ((xs.length : Int) == 0) = false := beq_eq_false_iff_ne.2 (by omega);have hmk := aCd xs.length (xs.length : Int) rfl hN;rw [aA] at hN;have hb : Blk .u64 (w.alloc (.cells (zs .u64 xs.length) 140)) w.heap.size 140 (List.replicate xs.length 0) := Blk.made _ _ _;have rx1 : Rw (w.alloc (.cells (zs .u64 xs.length) 140)) A xs := rx.q ((Q.refl _).alloc _);go_enter Tryz.func211, Tryz.ntmps211
 go_wp2_with (with_reducible refine fM rfl _ _ _ _ rfl 140 Tryz.underlying23 (by kernel_rfl) _ _ _ _ _ _ rfl rfl w.heap.size 0 140 (List.replicate xs.length 0) xs xs.length hb rx1 rfl (by omega) (fun _ => rfl) (by simp) ?_; intro w2 hb2 hg2)
 go_ret
 have e : (List.replicate xs.length 0).take 0 ++ xs.take xs.length ++ (List.replicate xs.length 0).drop (0 + xs.length) = xs := by simp
 rw [e] at hb2;exact ⟨xs, rfl, hb2, rfl, wx.1, rfl, Q.gr ((Q.refl _).alloc _) hg2 (Nat.le_refl _)⟩
theorem aCj (n : Nat) (e : Int) (he : e = (n : Int)) (hn : n ≤ 70368744177664) (w : World) :
  ∃ w', (Instr.makeSlice 155 (.int .i64 0) (.int .i64 e)).run Tryz.prog w = .ok (.slice (some ⟨w.heap.size, 0, none⟩) 0 n) w' ∧ Own w' w.heap.size (.slice (some ⟨w.heap.size, 0, none⟩) 0 n) [] ∧ Q w w' := by
 subst he;obtain ⟨i0, hi0, hz0, hz1, hz2⟩ := info_parts aAL;obtain ⟨w', h1, h2, h3⟩ := run_make_own (P := Tryz.prog) w w.heap.size 155 5 i0 (.int .u8 0) 1 Tryz.underlying155 hi0 hz0 hz1 .i64 .i64 n (by rw [hz2]; omega) (by unfold maxLen; omega) (Nat.le_refl _);exact ⟨w', h1, h2, Q.grown (Q.refl w) h3 (fun k e => by cases e)⟩
def Lf (w : World) (gl L : Nat) (v : Value) (T : Nat) : Prop :=
 (T = 0 ∧ v = .slice none 0 0) ∨ (0 < T ∧ ∃ cs : List Nat, v = .slice (some ⟨gl, 0, none⟩) (dg W64 T) L ∧ Blk .u64 w gl 140 cs ∧ dg W64 T ≤ cs.length ∧ cs.length ≤ L ∧ (∀ d ∈ cs.take (dg W64 T), d < W64) ∧ vl W64 (cs.take (dg W64 T)) = T)
theorem Lf.kept {w w' : World} {gl L T : Nat} {v : Value} {r : Option Nat} (h : Lf w gl L v T) (hg : w.grownBy w' r) (hne : r ≠ some gl) : Lf w' gl L v T := by
 rcases h with h | ⟨h0, cs, h1, h2, h3⟩
 ·exact Or.inl h
 ·refine Or.inr ⟨h0, cs, h1, ?_, h3⟩;exact (hg.block gl h2.lt (fun e => hne e.symm)).trans h2
theorem Lf.len {w : World} {gl L T : Nat} {v : Value} (h : Lf w gl L v T) : ∃ A c, v = .slice A (dg W64 T) c := by
 rcases h with ⟨h0, h1⟩ | ⟨h0, cs, h1, _⟩
 ·subst h0; exact ⟨none, 0, by rw [h1, aQ]⟩
 ·exact ⟨_, _, h1⟩
def bytes (l : List UInt8) : List Nat := l.map UInt8.toNat
theorem dC (l : List UInt8) : (bytes l).length = l.length := by simp [bytes]
theorem aBo (l : List UInt8) (c : UInt8) : bytes (l ++ [c]) = bytes l ++ [c.toNat] := by simp [bytes]
theorem kL (l m : List UInt8) : bytes (l ++ m) = bytes l ++ bytes m := by simp [bytes]
structure Og (w w' : World) (r : Option Nat) (v' : Value) : Prop where
 gr : w.grownBy w' r
 own : v'.ownBlock = r ∨ ∃ k, v'.ownBlock = some k ∧ w.heap.size ≤ k
theorem Og.start {w w' : World} {v : Value} (hq : Q w w') : Og w w' v.ownBlock v := ⟨⟨hq.os, hq.tape, hq.output, hq.size, fun _ hk _ => hq.heap hk⟩, Or.inl rfl⟩
theorem Og.q {w w1 w2 : World} {r : Option Nat} {v : Value} (h : Og w w1 r v) (hq : Q w1 w2) : Og w w2 r v :=
 ⟨World.grownBy.trans h.gr ⟨hq.os, hq.tape, hq.output, hq.size, fun _ hk _ => hq.heap hk⟩, h.own⟩
theorem Og.step {w w1 w2 : World} {r : Option Nat} {v v2 : Value} (h : Og w w1 r v) (hg : w1.grownBy w2 v.ownBlock) (h2 : v2.ownBlock = v.ownBlock ∨ ∃ k, v2.ownBlock = some k ∧ w1.heap.size ≤ k) : Og w w2 r v2 := by
 have hs : w.heap.size ≤ w1.heap.size := h.gr.size;refine ⟨⟨hg.os.trans h.gr.os, hg.tape.trans h.gr.tape, hg.output.trans h.gr.output, Nat.le_trans hs hg.size, fun k hk hne => ?_⟩, ?_⟩
 ·have hk1 : some k ≠ v.ownBlock := by
   rcases h.own with e | ⟨j, e, hj⟩
   ·rw [e]; exact hne
   ·rw [e]; intro e2; injection e2 with e2; omega
  exact (hg.block k (Nat.lt_of_lt_of_le hk hs) hk1).trans (h.gr.block k hk hne)
 ·rcases h2 with e | ⟨j, e, hj⟩
  ·rw [e]; exact h.own
  ·exact Or.inr ⟨j, e, Nat.le_trans hs hj⟩
theorem zH {v : Value} {r : Option Nat} (h : ∀ j, r = some j → v.ownBlock ≠ some j) : v.ownBlock = none ∨ v.ownBlock ≠ r := by
 cases hv : v.ownBlock with
 | none => exact Or.inl rfl
 | some j => exact Or.inr (fun e => h j e.symm hv)
theorem zI {w : World} {base : Nat} {v v2 ov : Value} {ds : List Nat} (h : ∀ j, ov.ownBlock = some j → v.ownBlock ≠ some j) (ho : Own w base v ds) (h2 : v2.ownBlock = ov.ownBlock ∨ ∃ k, v2.ownBlock = some k ∧ w.heap.size ≤ k) :
  ∀ j, v2.ownBlock = some j → v.ownBlock ≠ some j := by
 intro j e e2;rcases h2 with h2 | ⟨k, h2, hk⟩
 ·rw [h2] at e; exact h j e e2
 ·rw [h2] at e;injection e with e;have := (ho.lt e2).2;omega
theorem tH {w : World} {base n c i : Nat} {A : Option Addr} {ds : List Nat} (h : Own w base (.slice A n c) ds) (hn : ds.length = n) (hi : i < n) : ∃ g, A = some ⟨g, 0, none⟩ ∧ w.cell? ⟨g, i, none⟩ = some (.int .u8 ((ds[i]'(by omega) : Nat) : Int)) := by
 unfold Own at h;rw [hn] at h;obtain ⟨g, cap, e, _, _, _, _, _, rd⟩ := aAz h (by omega);injection e with e1 e2 e3;subst e1;obtain ⟨ad, e4, _, hc⟩ := rd.at_ (k := i) (by omega);injection e4 with e4;subst e4;rw [iG, Nat.zero_add] at hc;exact ⟨g, rfl, hc⟩
theorem aDz {row : List UInt8} {n i : Nat} (hn : row.length = n) (hi : i < n) : bytes (row.reverse.take (n - i)) = bytes (row.reverse.take (n - (i + 1))) ++ [(bytes row)[i]'(by rw [dC]; omega)] := by
 have e : n - i = n - (i + 1) + 1 := by omega
 rw [e, List.take_add_one, kL];congr 1;rw [List.getElem?_eq_getElem (by rw [List.length_reverse]; omega)];simp only [Option.toList_some, bytes, List.map_cons, List.map_nil, List.getElem_map];congr 2;rw [List.getElem_reverse];congr 1;omega
theorem aAp (out x : Value) (os : List Nat) (N width base : Nat) (z : Int) (w : World) (ho : Own w base out os) (hx : Nm w x N) (hz : z = (width : Int)) (hw : width = 0 ∨ N < 10 ^ width) (hsz : os.length + width + 100 * dg W64 N + 1000 ≤ 1099511627776) (hbase : base ≤ w.heap.size) (hN0 : 0 < N) :
  Calls Tryz.prog 194 #[out, x, .int .i64 z] w fun e w' => ∃ v, e = .returned v ∧ Own w' base v (os ++ bytes (dw width N)) ∧ w.grownBy w' out.ownBlock ∧ (v.ownBlock = out.ownBlock ∨ ∃ k, v.ownBlock = some k ∧ w.heap.size ≤ k) := by
 subst hz;obtain ⟨L, hL⟩ : ∃ L, dg W64 N = L := ⟨_, rfl⟩
 obtain ⟨A, c, rfl, hc⟩ := hx.parts;obtain ⟨Ao, co, rfl⟩ := ho.form;have HL := Lib.hid hL;rw [hL] at hx hsz hc ⊢;clear hL;go_enter Tryz.func194, Tryz.ntmps194
 go_wp2_with fail
 refine (aDy _ N _ hx (by rw [HL.out, aA]; omega) hN0).mono ?_;rintro e w1 ⟨cs, rfl, hb1, lcs, hcs, hv, hq1⟩;rw [HL.out] at lcs ⊢;obtain ⟨w2, hmk, hown, hq2⟩ := aCj (20 * L) (20 * (L : Int)) (by omega) (by omega) w1;have hlf : Lf w2 w.heap.size L (.slice (some ⟨w.heap.size, 0, none⟩) L L) N := Or.inr ⟨hN0, cs, by rw [HL.out], hb1.q hq2, by rw [HL.out, lcs]; exact Nat.le_refl _, by omega, aI hcs, by rw [HL.out, List.take_of_length_le (by omega)]; exact hv⟩;have HLF := Lib.hid hlf;have hgl := hb1.lt;have hq12 := hq1.trans hq2;have hs1 := hq1.size;clear hlf hb1 lcs hcs hv;go_wp2_with fail
 go_loopg [7, 8] N (fun gk lv rv w3 => ∃ row : List UInt8, Lf w3 w.heap.size L lv gk ∧ Own w3 w1.heap.size rv (bytes row) ∧ Hid (Ma.Rw N gk row) ∧ Q w w3 ∧ gk ≤ N ∧ w1.heap.size ≤ w3.heap.size)
 case atStart => exact ⟨[], HLF.out, hown, Lib.hid (Ma.Rw.start N), hq12, Nat.le_refl _, hq2.size⟩
 case round =>
  obtain ⟨row, hlf, hrow, hrw, hq, hgN, hbase3⟩ := hrel;have hrl := hrw.out.len;have hdN : dg 10 N ≤ 20 * L := by
   rw [aD (by decide)];have h1 := aM aB N;rw [HL.out] at h1;have h2 : W64 ^ L ≤ (10 ^ 20) ^ L := Nat.pow_le_pow_left (by decide) L;rw [← Nat.pow_mul] at h2;omega
  have hrl' : (bytes row).length ≤ 20 * L := (by rw [dC]; omega);rcases Nat.eq_zero_or_pos gk with hg0 | hg0
  ·subst hg0;rcases hlf with ⟨-, rfl⟩ | ⟨h0, _⟩
   case inr => omega
   have hdone := hrw.out.done;have hdw := aBV hw;obtain ⟨nr, hnr⟩ : ∃ nr, (bytes row).length = nr := ⟨_, rfl⟩
   obtain ⟨Ar, cr, rfl⟩ := hrow.form;rw [hnr] at hrl' hrow ⊢;have hnrd : nr = dg 10 N := by
    rw [← hnr, dC];have := congrArg List.length hdone;rw [xX, List.length_reverse] at this;exact this.symm
   have HNR := Lib.hid hnr;have HDW : Hid (dw width N = List.replicate (width - nr) 48 ++ row.reverse) := Lib.hid (by rw [hdw, ← hdone, hnrd]);have hog := Og.start (v := .slice Ao os.length co) hq;have hon := ho.q hq;have hdis : ∀ j, (Value.slice Ao os.length co).ownBlock = some j → (Value.slice Ar nr cr).ownBlock ≠ some j := fun j e e2 => by
    have h1 := (ho.lt e).2;have h2 := (hrow.lt e2).1;omega
   have hbw : base ≤ wr.heap.size := Nat.le_trans hbase hq.size;clear hnr hdone hdw hnrd hrw;generalize hro : (Value.slice Ao os.length co).ownBlock = ro at *
   go_wp2_with fail
   obtain ⟨wo, rfl⟩ : ∃ wo : World, wo = wr := ⟨_, rfl⟩
   go_loopw [0, 11] (fun ov iv w5 => ∃ (i : Nat), iv = .int .i64 (i : Int) ∧ nr ≤ i ∧ i ≤ max nr width ∧ Own w5 base ov (os ++ bytes (List.replicate (i - nr) 48)) ∧ Own w5 w1.heap.size (.slice Ar nr cr) (bytes row) ∧ Og w w5 ro ov ∧
    (∀ j, ov.ownBlock = some j → (Value.slice Ar nr cr).ownBlock ≠ some j) ∧ base ≤ w5.heap.size) (fun _ iv _ => max nr width - (intOf iv).toNat)
   case atStart => exact ⟨nr, rfl, by omega, by omega, by rw [Nat.sub_self]; simp [bytes]; exact hon, hrow, hog, by intro j e; rw [hro] at e; exact hdis j e, hbw⟩
   case round =>
    obtain ⟨i, rfl, hi1, hi2, hon, hrow, hog, hdis, hbw⟩ := hrel;by_cases hlt : i < width
    ·have j1 : (i : Int) < (width : Int) := (by omega);obtain ⟨lo, hlo⟩ : ∃ lo, (os ++ bytes (List.replicate (i - nr) 48)).length = lo := ⟨_, rfl⟩
     obtain ⟨Av, cv, rfl⟩ := hon.form;have hlol : lo ≤ os.length + width := (by rw [← hlo, List.length_append, dC, List.length_replicate]; omega);rw [hlo] at hon hdis hog ⊢;have HLO := Lib.hid hlo; clear hlo;go_wp2_with (at_builtin; go_loud (refine kC rfl _ _ rfl base _ (os ++ bytes (List.replicate (i - nr) 48)) rfl hon (48 : Int) 48 rfl rfl (by rw [HLO.out]; omega) hbw ?_); intro v7 w7 h71 h72 h73)
     have ho7 : Own w7 base v7 (os ++ bytes (List.replicate (i + 1 - nr) 48)) := by
      rw [show i + 1 - nr = (i - nr) + 1 by omega, List.replicate_succ', kL, ← List.append_assoc]; exact h71
     have hr7 := hrow.kept h72 (zH hdis);have hg7 := hog.step h72 h73;have hd7 := zI hdis hrow h73;have hb7 := Nat.le_trans hbw h72.size;exact ⟨⟨i + 1, congrArg (Value.int _) (by omega), by omega, by omega, ho7, hr7, hg7, hd7, hb7⟩, by simp [intOf]; omega⟩
    ·have j1 : ¬ (i : Int) < (width : Int) := (by omega);have hir : i - nr = width - nr := (by omega);rw [hir] at hon;obtain ⟨Av, cv, rfl⟩ := hon.form;have HIR := Lib.hid hir; clear hir;obtain ⟨zs, hzs⟩ : ∃ zs, os ++ bytes (List.replicate (width - nr) 48) = zs := ⟨_, rfl⟩
     rw [hzs] at hon hdis hog ⊢;have hzl : zs.length ≤ os.length + width := (by rw [← hzs, List.length_append, dC, List.length_replicate]; omega);have HZS := Lib.hid hzs; clear hzs;have lrow : row.length = nr := (by rw [← HNR.out, dC]);have LROW := Lib.hid lrow; clear lrow;go_wp2_with fail
     go_loopw [0, 12] (fun ov iv w5 => ∃ (j : Nat), iv = .int .i64 ((j : Int) - 1) ∧ j ≤ nr ∧ Own w5 base ov (zs ++ bytes (row.reverse.take (nr - j))) ∧ Own w5 w1.heap.size (.slice Ar nr cr) (bytes row) ∧ Og w w5 ro ov ∧
      (∀ j, ov.ownBlock = some j → (Value.slice Ar nr cr).ownBlock ≠ some j) ∧ base ≤ w5.heap.size) (fun _ iv _ => (intOf iv + 1).toNat)
     case atStart => exact ⟨nr, rfl, Nat.le_refl _, by rw [Nat.sub_self]; simp [bytes]; exact hon, hrow, hog, hdis, hbw⟩
     case round =>
      obtain ⟨j, rfl, hj, hon, hrow, hog, hdis, hbw⟩ := hrel;obtain ⟨lo, hlo⟩ : ∃ lo, (zs ++ bytes (row.reverse.take (nr - j))).length = lo := ⟨_, rfl⟩
      obtain ⟨Av, cv, rfl⟩ := hon.form;have hlol : lo ≤ zs.length + nr := (by rw [← hlo, List.length_append, dC, List.length_take]; omega);rw [hlo] at hon hdis hog ⊢;have HLO := Lib.hid hlo; clear hlo;by_cases hlt : 0 < j
      ·obtain ⟨i, rfl⟩ : ∃ i, j = i + 1 := ⟨j - 1, by omega⟩
       rw [show ((i + 1 : Nat) : Int) - 1 = (i : Int) from by omega];obtain ⟨g, rfl, hcell⟩ := tH hrow HNR.out (i := i) (by omega);have hrt := aDz LROW.out (show i < nr by omega);generalize (bytes row)[i]'(by rw [HNR.out]; omega) = d at hcell hrt;have HRT := Lib.hid hrt; clear hrt;go_wp2_with (at_builtin; go_loud (refine kC rfl _ _ rfl base _ (zs ++ bytes (row.reverse.take (nr - (i + 1)))) rfl hon (d : Int) d rfl rfl (by rw [HLO.out]; omega) hbw ?_); intro v7 w7 h71 h72 h73)
       have ho7 : Own w7 base v7 (zs ++ bytes (row.reverse.take (nr - i))) := by
        rw [HRT.out, ← List.append_assoc]; exact h71
       have hr7 := hrow.kept h72 (zH hdis);have hg7 := hog.step h72 h73;have hd7 := zI hdis hrow h73;have hb7 := Nat.le_trans hbw h72.size;exact ⟨⟨i, rfl, by omega, ho7, hr7, hg7, hd7, hb7⟩, by simp [intOf]⟩
      ·obtain rfl : j = 0 := (by omega);rw [show ((0 : Nat) : Int) - 1 = -1 from by omega];have hfin : zs ++ bytes (row.reverse.take (nr - 0)) = os ++ bytes (dw width N) := by
        rw [Nat.sub_zero, List.take_of_length_le (by rw [List.length_reverse, LROW.out]; exact Nat.le_refl _), HDW.out, kL, ← List.append_assoc, HZS.out]
       rw [hfin] at hon;clear hfin;go_wp2_with fail
       go_ret
       exact ⟨_, rfl, hon, by rw [hro]; exact hog.gr, by rw [hro]; exact hog.own⟩
  ·rcases hlf with ⟨h0, _⟩ | ⟨_, cs, rfl, hb, hkc, hcL, hcs, hv⟩
   ·omega
   have hkN : dg W64 gk ≤ L := (by rw [← HL.out]; exact aR aB hgN);have hk0 : 0 < dg W64 gk := by
    rcases Nat.eq_zero_or_pos (dg W64 gk) with h | h
    ·have := aW aB h; omega
    ·exact h
   obtain ⟨k, hk⟩ : ∃ k, dg W64 gk = k := ⟨_, rfl⟩
   rw [hk] at hkc hcs hv hkN hk0 ⊢;have HK := Lib.hid hk; clear hk;have lck : (cs.take k).length = k := (by rw [List.length_take]; omega);have so : Src wr w.heap.size 0 (some ⟨w.heap.size, 0, none⟩) (cs.take k) := by
    have h := Src.own (off := 0) (n := k) hb
    rwa [List.drop_zero] at h
   have LCK := Lib.hid lck; have HV := Lib.hid hv;clear lck hv;go_wp2_with fail
   refine (jQ (some ⟨w.heap.size, 0, none⟩) (some ⟨w.heap.size, 0, none⟩) k L k L w.heap.size 140 0 10000000000000000000 (cs.take k) cs _ hb LCK.out (by omega) (fun _ => rfl) (Nat.le_refl _) (by omega) (by omega) (by omega) so hcs (by decide) (by decide)).mono ?_;rintro e w4 ⟨o, rfl, lo, ho', hvo, hb4, hg4⟩;rw [HV.out] at hvo ⊢;have hOn4 := hrow.kept hg4 (by
    right;intro e;have := (hrow.lt e).1;omega)
   have hq4 := Q.gr hq hg4 (Nat.le_refl _);have e4 : cs.take 0 ++ o ++ cs.drop (0 + k) = o ++ cs.drop k := (by simp);rw [e4] at hb4;have rwo : Rw w4 (some ⟨w.heap.size, 0, none⟩) o := by
    have h := Rw.part (off := 0) (n := k) hb4
    rwa [List.drop_zero, List.take_append_of_le_length (by omega), List.take_of_length_le (by omega)] at h
   obtain ⟨G, hG⟩ : ∃ G, gk / 10000000000000000000 = G := ⟨_, rfl⟩
   obtain ⟨p0, hp0⟩ : ∃ p, gk % 10000000000000000000 = p := ⟨_, rfl⟩
   rw [hG] at hvo;rw [hp0];have hp0l : p0 < 10 ^ 19 := (by rw [← hp0]; exact Nat.lt_of_lt_of_eq (Nat.mod_lt _ (by decide)) (by decide));have hGk : G * 10 ^ 19 + p0 = gk := by
    rw [← hG, ← hp0, show (10 : Nat) ^ 19 = 10000000000000000000 by decide, Nat.mul_comm]; exact Nat.div_add_mod _ _
   have hGlt : G < gk := (by rw [← hG]; exact Nat.div_lt_self hg0 (by decide));have hlfG : Lf w4 w.heap.size L (gP (some ⟨w.heap.size, 0, none⟩) L G) G := by
    rcases Nat.eq_zero_or_pos G with h | h
    ·subst h; exact Or.inl ⟨rfl, uQ⟩
    ·have hd : dg W64 G ≤ k := (by rw [← HK.out]; exact aR aB (Nat.le_of_lt hGlt));have ht : (o ++ cs.drop k).take (dg W64 G) = o.take (dg W64 G) := List.take_append_of_le_length (by omega);refine Or.inr ⟨h, o ++ cs.drop k, nC h, hb4, by rw [List.length_append]; omega, by rw [List.length_append, List.length_drop]; omega, by rw [ht]; exact aI ho', ?_⟩;rw [ht];have := iR (b := W64) (n := dg W64 G) (xs := o) (by omega) ho';rw [hvo, Nat.mod_eq_of_lt (aM aB G)] at this;exact this
   have hrwG : Hid (Ma.Rw N (G * 10 ^ 19 + p0) row) := (by rw [hGk]; exact hrw);have HGL := Lib.hid hGlt;have hsz4 : w1.heap.size ≤ w4.heap.size := Nat.le_trans hbase3 hg4.size;clear hG hp0 hGk hGlt e4 hb4 hg4 so hb hcs;go_wp2_with fail
   refine (v_trimmed' (some ⟨w.heap.size, 0, none⟩) L k G o _ lo (by omega) (by omega) rwo ho' hvo).mono ?_;rintro e w5 ⟨rfl, rfl⟩;generalize hvL : gP (some ⟨w.heap.size, 0, none⟩) L G = vL at *
   clear hvL;obtain ⟨A', c', rfl⟩ := hlfG.len;obtain ⟨kG, hkG⟩ : ∃ kG, dg W64 G = kG := ⟨_, rfl⟩
   have hG0 : kG = 0 ↔ G = 0 := by
    rw [← hkG];constructor
    ·intro h; exact aW aB h
    ·intro h; rw [h, aQ]
   have hkG63 : kG ≤ L := (by rw [← hkG]; exact Nat.le_trans (aR aB (Nat.le_of_lt HGL.out)) (by rw [HK.out]; exact hkN));rw [hkG] at hlfG ⊢;clear hkG rwo lo ho' hvo;go_wp2_with fail
   go_loopw [8, 9, 10] (fun rv pv iv w6 => ∃ (i p : Nat) (row : List UInt8), i ≤ 19 ∧ iv = .int .i64 (i : Int) ∧ pv = .int .u64 (p : Int) ∧ Hid (p < 10 ^ (19 - i)) ∧ p < 10000000000000000000 ∧ Own w6 w1.heap.size rv (bytes row) ∧ Hid (Ma.Rw N (G * 10 ^ (19 - i) + p) row) ∧
    Lf w6 w.heap.size L (.slice A' kG c') G ∧ Q w w6 ∧ w1.heap.size ≤ w6.heap.size) (fun _ _ iv _ => 19 - (intOf iv).toNat)
   case atStart => exact ⟨0, p0, row, by omega, rfl, rfl, Lib.hid hp0l, by omega, hOn4, hrwG, hlfG, hq4, hsz4⟩
   case round =>
    obtain ⟨i, p, row, hi, rfl, rfl, hpl, hp19, hrow, hrw, hlf, hq, hbase6⟩ := hrel;have hlen : (bytes row).length ≤ 20 * L := (by have := hrw.out.len; rw [dC]; omega);have hfin : ∀ T, G * 10 ^ (19 - i) + p = T → T = G → Hid (Ma.Rw N G row) := fun T h1 h2 => (by rw [← h2, ← h1]; exact hrw);rcases Nat.lt_or_ge i 19 with hlt | hge
    ·by_cases hbody : 0 < p ∨ 0 < kG
     ·obtain ⟨m, hm⟩ : ∃ m, p % 10 = m := ⟨_, rfl⟩
      obtain ⟨p', hp'⟩ : ∃ m, p / 10 = m := ⟨_, rfl⟩
      have hm9 : m < 10 := (by omega);obtain ⟨cd, hcd⟩ : ∃ c, 48 + m = c := ⟨_, rfl⟩
      have j1 : (p : Int) % 10 = (m : Int) := (by omega);have j2 : 48 + (m : Int) = (cd : Int) := (by omega);have j3 : IntKind.u64.wrap (cd : Int) = (cd : Int) := aJ (by omega);have j4 : IntKind.u8.wrap (cd : Int) = (cd : Int) := (by rw [IntKind.wrap_u8]; omega);have j5 : (p : Int) / 10 = (p' : Int) := (by omega);have hT : 0 < G * 10 ^ (19 - i) + p := by
       rcases hbody with h | h
       ·omega
       ·have hg : 0 < G := by
         rcases Nat.eq_zero_or_pos G with h2 | h2
         ·have := hG0.2 h2; omega
         ·exact h2
        have := Nat.mul_pos hg (show 0 < 10 ^ (19 - i) from Nat.pow_pos (by decide));omega
      have hst := hrw.out.step hT;obtain ⟨i', hi'⟩ : ∃ i', 19 - i = i' + 1 := ⟨18 - i, by omega⟩
      have hpl' := hpl.out;rw [hi'] at hst hpl';obtain ⟨t1, t2, t3⟩ := aC4 (M := G) hpl';rw [t1, t2, hm, hp'] at hst;rw [hp'] at t3;have HST := Lib.hid hst; have T3 := Lib.hid t3; have HI' := Lib.hid hi'; have HCD := Lib.hid hcd;have hp19' : p' < 10000000000000000000 := (by omega);clear hm hp' hst t1 t2 t3 hT hi' hpl' hfin hcd;obtain ⟨nr, hnr⟩ : ∃ nr, (bytes row).length = nr := ⟨_, rfl⟩
      obtain ⟨Ar, cr, rfl⟩ := hrow.form;rw [hnr] at hlen hrow ⊢;have HNR := Lib.hid hnr; clear hnr;rcases Nat.eq_zero_or_pos p with hpz | hpz
      case' inl =>
       have k1 : ¬ (0 : Int) < (p : Int) := (by omega);have k1n : ¬ 0 < p := (by omega);have k2 : (0 : Int) < (kG : Int) := (by omega);have k2n : 0 < kG := (by omega);have HPZ := Lib.hid hpz
      case' inr =>
       have k1 : (0 : Int) < (p : Int) := (by omega);have HPZ := Lib.hid hpz
      all_goals
       clear hpz hbody;go_wp2_with (at_builtin; go_loud (refine kC rfl _ _ rfl w1.heap.size _ (bytes row) rfl hrow (cd : Int) cd rfl rfl (by rw [HNR.out]; omega) hbase6 ?_); intro v7 w7 h71 h72 h73)
       have hrow7 : Own w7 w1.heap.size v7 (bytes (row ++ [dig m])) := by
        rw [aBo, jC hm9, HCD.out]; exact h71
       have hnb : ∀ j, (Value.slice Ar nr cr).ownBlock = some j → w1.heap.size ≤ j := fun j e => (hrow.lt e).1;have hlf7 := hlf.kept h72 (fun e => by have := hnb _ e; omega);have hq7 := Q.grown hq h72 (fun j e => by have := hnb _ e; omega);have hsz7 := Nat.le_trans hbase6 h72.size;clear h71 h72 h73 hnb hrow hlf hq;go_wp2_with fail
       exact ⟨⟨i + 1, p', row ++ [dig m], by omega, congrArg (Value.int _) (by omega), rfl, Lib.hid (by rw [show 19 - (i + 1) = i' by have := HI'.out; omega]; exact T3.out), hp19', hrow7, Lib.hid (by rw [show 19 - (i + 1) = i' by have := HI'.out; omega]; exact HST.out), hlf7, hq7, hsz7⟩, by simp [intOf]; omega⟩
     ·have hp0' : p = 0 := (by omega);have hkG0 : kG = 0 := (by omega);have hGz := hG0.1 hkG0;have HR := Lib.hid (hfin _ rfl (by rw [hGz, hp0', Nat.zero_mul]));have k1 : ¬ (0 : Int) < (p : Int) := (by omega);have k1n : ¬ 0 < p := (by omega);have k2 : ¬ (0 : Int) < (kG : Int) := (by omega);have k2n : ¬ 0 < kG := (by omega);obtain ⟨Ar, cr, rfl⟩ := hrow.form;clear hp0' hkG0 hGz hbody hfin hG0;go_wp2_with fail
      go_roundg G
      case measure => exact HGL.out
      case rel => exact ⟨row, by have h := hlf; exact h, hrow, HR.out, hq, by have := HGL.out; omega, hbase6⟩
    ·obtain rfl : i = 19 := (by omega);have hpz : p = 0 := (by have := hpl.out; simp at this; omega);have HR := Lib.hid (hfin _ rfl (by rw [hpz]; simp));have k1 : ¬ ((19 : Nat) : Int) < 19 := (by omega);obtain ⟨Ar, cr, rfl⟩ := hrow.form;clear hpz hfin;go_wp2_with fail
     go_roundg G
     case measure => exact HGL.out
     case rel => exact ⟨row, hlf, hrow, HR.out, hq, by have := HGL.out; omega, hbase6⟩
end Go.Proofs.YtgpacgadpnpjjaaGreatDoor
