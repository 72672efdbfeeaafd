/- ValueParses: for every string the law holds: what Check, Parse, Text and Digits return is what the document says. No condition.. Part of the proof: texts Vb9 Va7 Vc1 Vc2. -/
import Derived.Laws.RangeAny
import Derived.Laws.RangeString
import Derived.Lib.OthersKept
import Derived.WalkSmall
import Derived.Test.YtgpacgadpnpjjaaGreatDoorQp04
import Derived.Test.YtgpacgadpnpjjaaGreatDoorQp12
import Derived.Test.YtgpacgadpnpjjaaGreatDoorQp13
set_option maxHeartbeats 1000000
namespace Go.Proofs.YtgpacgadpnpjjaaGreatDoor
open Go.RowKit
open Ma Me
theorem Me.Nm.one' {w : World} {A : Option Addr} {c R : Nat} (h : Nm w (.slice A 1 c) R) : ∃ g o, A = some ⟨g, o, none⟩ ∧ g < w.heap.size ∧ w.cell? ⟨g, o, none⟩ = some (.int .u64 (R : Int)) := by
 obtain ⟨A', c', ws, h1, h2, h3, h4, h5⟩ := h;injection h1 with e1 e2 e3;subst e1
 match ws, e2 with
 | [a], _ =>
   simp [vl] at h5;subst h5;obtain ⟨b, o, e, hb, h6⟩ := h3.head (by simp);exact ⟨b, o, e, hb, h6⟩
set_option maxRecDepth 100000 in
theorem wR (N M : Nat) (x y : Value) (w : World) (hT : Tb w) (hx : Nm w x N) (hy : Nm w y M) (hN0 : 0 < N) (hM0 : 0 < M) (hB : 8 * (dg W64 N + dg W64 M) + 80 ≤ LIM) :
  Calls Tryz.prog 75 #[x, y] w (fU (Nat.gcd N M) w) := by
 have hB' := hB;rw [aA] at hB';obtain ⟨A, c, rfl, hc⟩ := hx.parts;obtain ⟨B, d, rfl, hd⟩ := hy.parts;have htn := fK hN0;have htm := fK hM0;have hbn : bl N ≤ 64 * dg W64 N := gM 64 N (by decide);have hbm : bl M ≤ 64 * dg W64 M := gM 64 M (by decide);have sN := eQ hN0;have sM := eQ hM0;have hG := iT hN0 hM0;obtain ⟨sh, hsh⟩ : ∃ sh, min (tz N) (tz M) = sh := ⟨_, rfl⟩
 have hmin : min (tz N : Int) (tz M : Int) = (sh : Int) := by omega
 rw [hsh] at hG;have hshN : sh ≤ tz N := by omega
 have qN : N / 2 ^ tz N ≤ N := Nat.div_le_self _ _;have qM : M / 2 ^ tz M ≤ M := Nat.div_le_self _ _;have dN : dg W64 (N / 2 ^ tz N) ≤ dg W64 N := aR aB qN;have dM : dg W64 (M / 2 ^ tz M) ≤ dg W64 M := aR aB qM;have hpN : tz N + 1 = bl N → Nat.gcd N M = 2 ^ sh := fun h => by
  rw [← hsh]; refine wD hN0 hM0 (Or.inl ?_);have := nG hN0 h;rw [← this]; exact Nat.div_self hN0
 have hpM : tz M + 1 = bl M → Nat.gcd N M = 2 ^ sh := fun h => by
  rw [← hsh]; refine wD hN0 hM0 (Or.inr ?_);have := nG hM0 h;rw [← this]; exact Nat.div_self hM0
 obtain ⟨N', hN'⟩ : ∃ q, N / 2 ^ tz N = q := ⟨_, rfl⟩
 obtain ⟨M', hM'⟩ : ∃ q, M / 2 ^ tz M = q := ⟨_, rfl⟩
 rw [hN'] at sN hG qN dN;rw [hM'] at sM hG qM dM;have hfN : (N : Int) / 2 ^ tz N = (N' : Int) := by rw [← fJ, ← Int.natCast_ediv, hN']
 have hfM : (M : Int) / 2 ^ tz M = (M' : Int) := by rw [← fJ, ← Int.natCast_ediv, hM']
 have HN' := Lib.hid hN'; have HM' := Lib.hid hM'; have SN := Lib.hid sN; have SM := Lib.hid sM; have HG := Lib.hid hG;have HPN := Lib.hid hpN; have HPM := Lib.hid hpM;clear hN' hM' sN sM hG hpN hpM hsh;obtain ⟨ln, hln⟩ : ∃ ln, dg W64 N = ln := ⟨_, rfl⟩
 obtain ⟨lm, hlm⟩ : ∃ lm, dg W64 M = lm := ⟨_, rfl⟩
 have HLN := Lib.hid hln; have HLM := Lib.hid hlm;rw [hln] at hx hc hB' hbn dN ⊢;rw [hlm] at hy hd hB' hbm dM ⊢;clear hln hlm;by_cases p1 : tz N + 1 = bl N
 ·have hg := HPN.out p1;have HGP := Lib.hid hg;have P1 := Lib.hid (decide_eq_true p1);clear hg p1;go_enter Tryz.func75, Tryz.ntmps75
  go_wp2_with fail
  refine (bH _ N _ hT hx (by rw [HLN.out, aA]; omega) hN0).mono ?_;rintro e w1 ⟨rfl, rfl⟩;go_wp2_with fail
  refine (bH _ M _ hT hy (by rw [HLM.out, aA]; omega) hM0).mono ?_;rintro e w1 ⟨rfl, rfl⟩;go_wp2_with fail
  refine (fI _ N _ hT hx (by rw [HLN.out, aA]; omega) hN0).mono ?_;rintro e w1 ⟨rfl, rfl⟩;rw [P1.out];go_wp2_with fail
  refine (fB 1 1 _ rfl (by decide)).mono ?_;rintro e w2 ⟨v, rfl, hv, hq2, -⟩;go_wp2_with fail
  refine (cB _ 1 sh _ _ hv rfl (by rw [bZ aB, aA]; omega) (by omega)).mono ?_;rintro e w3 ⟨v2, rfl, hv2, hq3, hn3⟩;rw [Nat.one_mul, ← HGP.out] at hv2;go_wp2_with fail
  go_ret
  exact ⟨v2, rfl, hv2, hq2.trans hq3, hn3.more hq2.size⟩
 ·have P1 := Lib.hid (decide_eq_false p1);clear p1;by_cases p2 : tz M + 1 = bl M
  ·have hg := HPM.out p2;have HGP := Lib.hid hg;have P2 := Lib.hid (decide_eq_true p2);clear hg p2;go_enter Tryz.func75, Tryz.ntmps75
   go_wp2_with fail
   refine (bH _ N _ hT hx (by rw [HLN.out, aA]; omega) hN0).mono ?_;rintro e w1 ⟨rfl, rfl⟩;go_wp2_with fail
   refine (bH _ M _ hT hy (by rw [HLM.out, aA]; omega) hM0).mono ?_;rintro e w1 ⟨rfl, rfl⟩;go_wp2_with fail
   refine (fI _ N _ hT hx (by rw [HLN.out, aA]; omega) hN0).mono ?_;rintro e w1 ⟨rfl, rfl⟩;rw [P1.out];go_wp2_with fail
   refine (fI _ M _ hT hy (by rw [HLM.out, aA]; omega) hM0).mono ?_;rintro e w1 ⟨rfl, rfl⟩;rw [P2.out];go_wp2_with fail
   refine (fB 1 1 _ rfl (by decide)).mono ?_;rintro e w2 ⟨v, rfl, hv, hq2, -⟩;go_wp2_with fail
   refine (cB _ 1 sh _ _ hv rfl (by rw [bZ aB, aA]; omega) (by omega)).mono ?_;rintro e w3 ⟨v2, rfl, hv2, hq3, hn3⟩;rw [Nat.one_mul, ← HGP.out] at hv2;go_wp2_with fail
   go_ret
   exact ⟨v2, rfl, hv2, hq2.trans hq3, hn3.more hq2.size⟩
  ·have P2 := Lib.hid (decide_eq_false p2);clear p2;by_cases h1 : ln = 1
   ·by_cases h2 : lm = 1
    ·subst h1 h2;obtain ⟨ga, oa, rfl, hba, hca⟩ := hx.one';obtain ⟨gb, ob, rfl, hbb, hcb⟩ := hy.one';have hNW : N < W64 := by
      have h := aM aB N;rw [HLN.out, Nat.pow_one] at h; exact h
     have hMW : M < W64 := by
      have h := aM aB M;rw [HLM.out, Nat.pow_one] at h; exact h
     have htn64 : tz N < 64 := Nat.lt_of_lt_of_le htn ((aT _ _).2 hNW);have htm64 : tz M < 64 := Nat.lt_of_lt_of_le htm ((aT _ _).2 hMW);have hgle : Nat.gcd N M < W64 := Nat.lt_of_le_of_lt (Nat.gcd_le_left _ hN0) hNW;have hfg : IntKind.u64.wrap (((Nat.gcd N' M' : Nat) : Int) * 2 ^ sh) = ((Nat.gcd N M : Nat) : Int) := by
      rw [← fJ, ← Int.natCast_mul, Nat.mul_comm, ← HG.out];exact aJ hgle
     obtain ⟨gg, hgg⟩ : ∃ gg, Nat.gcd N' M' = gg := ⟨_, rfl⟩
     rw [hgg] at hfg;obtain ⟨gr, hgr⟩ : ∃ gr, Nat.gcd N M = gr := ⟨_, rfl⟩
     rw [hgr] at hfg hgle ⊢;have HGG := Lib.hid hgg;have hsh64 : sh < 64 := (by omega);have HW := Lib.hid (And.intro hNW (And.intro hMW hgle));clear hgg hgr hNW hMW hgle;go_enter Tryz.func75, Tryz.ntmps75
     go_wp2_with fail
     refine (bH _ N _ hT hx (by rw [HLN.out, aA]; omega) hN0).mono ?_;rintro e w1 ⟨rfl, rfl⟩;go_wp2_with fail
     refine (bH _ M _ hT hy (by rw [HLM.out, aA]; omega) hM0).mono ?_;rintro e w1 ⟨rfl, rfl⟩;go_wp2_with fail
     refine (fI _ N _ hT hx (by rw [HLN.out, aA]; omega) hN0).mono ?_;rintro e w1 ⟨rfl, rfl⟩;rw [P1.out];go_wp2_with fail
     refine (fI _ M _ hT hy (by rw [HLM.out, aA]; omega) hM0).mono ?_;rintro e w1 ⟨rfl, rfl⟩;rw [P2.out];go_wp2_with fail
     go_region_held3 (fun W => W.cell? ⟨ga, oa, none⟩ = some (.int .u64 (N : Int)) ∧ W.cell? ⟨gb, ob, none⟩ = some (.int .u64 (M : Int))) (first | exact ⟨hca, hcb⟩ | exact ⟨by assumption, by assumption⟩ | go_keep) (first
      | (go_at_call 146; refine (qI N' M' _ (by have := HW.out.1; omega) (by have := HW.out.2.1; omega) SN.out.2 SM.out.2 (by exact hT)).mono ?_; rintro e w2 ⟨rfl, rfl⟩; rw [HGG.out])
      | (go_at_call 132; refine (fB (gr : Int) gr _ rfl HW.out.2.2).mono ?_; rintro e w3 ⟨v, rfl, hv, hq3, hn3⟩; have k1 := (hq3.cell (p := ⟨ga, oa, none⟩) (by exact hba)).trans (by exact hca); have k2 := (hq3.cell (p := ⟨gb, ob, none⟩) (by exact hbb)).trans (by exact hcb)))
     all_goals
      go_wp2_with fail
      go_ret
      exact ⟨v, rfl, hv, (Q.refl w).drew.trans hq3, hn3⟩
    ·have h1' : ((ln : Int) == 1) = true := (by rw [h1]; rfl);have h2' : ((lm : Int) == 1) = false := (by rw [beq_eq_false_iff_ne]; omega);clear h1 h2;go_enter Tryz.func75, Tryz.ntmps75
     go_wp2_with fail
     refine (bH _ N _ hT hx (by rw [HLN.out, aA]; omega) hN0).mono ?_;rintro e w1 ⟨rfl, rfl⟩;go_wp2_with fail
     refine (bH _ M _ hT hy (by rw [HLM.out, aA]; omega) hM0).mono ?_;rintro e w1 ⟨rfl, rfl⟩;go_wp2_with fail
     refine (fI _ N _ hT hx (by rw [HLN.out, aA]; omega) hN0).mono ?_;rintro e w1 ⟨rfl, rfl⟩;rw [P1.out];go_wp2_with fail
     refine (fI _ M _ hT hy (by rw [HLM.out, aA]; omega) hM0).mono ?_;rintro e w1 ⟨rfl, rfl⟩;rw [P2.out];go_wp2_with fail
     refine (bT _ N (tz N) _ _ hx rfl (by rw [HLN.out, aA]; omega) (by omega)).mono ?_;rintro e w2 ⟨xv, rfl, hxv, hq2, -⟩;rw [HN'.out] at hxv;go_wp2_with fail
     refine (bT _ M (tz M) _ _ (hy.q hq2) rfl (by rw [HLM.out, aA]; omega) (by omega)).mono ?_;rintro e w3 ⟨yv, rfl, hyv, hq3, -⟩;rw [HM'.out] at hyv;have hxv := hxv.q hq3;obtain ⟨Ax, kx, cx, rfl⟩ := hxv.form;obtain ⟨Ay, ky, cy, rfl⟩ := hyv.form;rcases Nat.lt_or_ge N' M' with hlt | hge
     ·have hcmp := Lib.hid (fQ hlt);go_wp2_with fail
      refine (aZ _ _ N' M' _ hxv hyv (by rw [aA]; omega) (by rw [aA]; omega)).mono ?_;rintro e w4 ⟨rfl, hq4⟩;rw [hcmp.out];have hq := (hq2.trans hq3).trans hq4;go_wp2_with fail
      refine (iW M' N' _ _ _ (Tb.q hT hq) (hyv.q hq4) (hxv.q hq4) (Nat.le_of_lt hlt) (by have := SM.out.2; omega) SM.out.2 (by rw [aA]; omega)).mono ?_;rintro e w5 ⟨g, rfl, hg, hq5, -⟩;rw [Nat.gcd_comm] at hg;have hgd : dg W64 (Nat.gcd N' M') ≤ dg W64 N' := aR aB (Nat.gcd_le_left _ (by have := SN.out.2; omega));go_wp2_with fail
      refine (cB _ (Nat.gcd N' M') sh _ _ hg rfl (by rw [aA]; omega) (by omega)).mono ?_;rintro e w6 ⟨v2, rfl, hv2, hq6, hn6⟩;rw [Nat.mul_comm, ← HG.out] at hv2;go_wp2_with fail
      go_ret
      exact ⟨v2, rfl, hv2, (hq.trans hq5).trans hq6, hn6.more (hq.trans hq5).size⟩
     ·have hcmp : ∃ z : Int, cmp N' M' = z ∧ ¬ z < 0 := by
       rcases Nat.eq_or_lt_of_le hge with h | h
       ·exact ⟨0, by rw [h]; exact cmp_eq _, by omega⟩
       ·exact ⟨1, gT h, by omega⟩
      obtain ⟨z, hz, hz0⟩ := hcmp;have hcmp := Lib.hid hz; clear hz;go_wp2_with fail
      refine (aZ _ _ N' M' _ hxv hyv (by rw [aA]; omega) (by rw [aA]; omega)).mono ?_;rintro e w4 ⟨rfl, hq4⟩;rw [hcmp.out];have hq := (hq2.trans hq3).trans hq4;go_wp2_with fail
      refine (iW N' M' _ _ _ (Tb.q hT hq) (hxv.q hq4) (hyv.q hq4) hge (by have := SN.out.2; omega) SN.out.2 (by rw [aA]; omega)).mono ?_;rintro e w5 ⟨g, rfl, hg, hq5, -⟩;have hgd : dg W64 (Nat.gcd N' M') ≤ dg W64 N' := aR aB (Nat.gcd_le_left _ (by have := SN.out.2; omega));go_wp2_with fail
      refine (cB _ (Nat.gcd N' M') sh _ _ hg rfl (by rw [aA]; omega) (by omega)).mono ?_;rintro e w6 ⟨v2, rfl, hv2, hq6, hn6⟩;rw [Nat.mul_comm, ← HG.out] at hv2;go_wp2_with fail
      go_ret
      exact ⟨v2, rfl, hv2, (hq.trans hq5).trans hq6, hn6.more (hq.trans hq5).size⟩
   ·have h1' : ((ln : Int) == 1) = false := (by rw [beq_eq_false_iff_ne]; omega);clear h1;go_enter Tryz.func75, Tryz.ntmps75
    go_wp2_with fail
    refine (bH _ N _ hT hx (by rw [HLN.out, aA]; omega) hN0).mono ?_;rintro e w1 ⟨rfl, rfl⟩;go_wp2_with fail
    refine (bH _ M _ hT hy (by rw [HLM.out, aA]; omega) hM0).mono ?_;rintro e w1 ⟨rfl, rfl⟩;go_wp2_with fail
    refine (fI _ N _ hT hx (by rw [HLN.out, aA]; omega) hN0).mono ?_;rintro e w1 ⟨rfl, rfl⟩;rw [P1.out];go_wp2_with fail
    refine (fI _ M _ hT hy (by rw [HLM.out, aA]; omega) hM0).mono ?_;rintro e w1 ⟨rfl, rfl⟩;rw [P2.out];go_wp2_with fail
    refine (bT _ N (tz N) _ _ hx rfl (by rw [HLN.out, aA]; omega) (by omega)).mono ?_;rintro e w2 ⟨xv, rfl, hxv, hq2, -⟩;rw [HN'.out] at hxv;go_wp2_with fail
    refine (bT _ M (tz M) _ _ (hy.q hq2) rfl (by rw [HLM.out, aA]; omega) (by omega)).mono ?_;rintro e w3 ⟨yv, rfl, hyv, hq3, -⟩;rw [HM'.out] at hyv;have hxv := hxv.q hq3;obtain ⟨Ax, kx, cx, rfl⟩ := hxv.form;obtain ⟨Ay, ky, cy, rfl⟩ := hyv.form;rcases Nat.lt_or_ge N' M' with hlt | hge
    ·have hcmp := Lib.hid (fQ hlt);go_wp2_with fail
     refine (aZ _ _ N' M' _ hxv hyv (by rw [aA]; omega) (by rw [aA]; omega)).mono ?_;rintro e w4 ⟨rfl, hq4⟩;rw [hcmp.out];have hq := (hq2.trans hq3).trans hq4;go_wp2_with fail
     refine (iW M' N' _ _ _ (Tb.q hT hq) (hyv.q hq4) (hxv.q hq4) (Nat.le_of_lt hlt) (by have := SM.out.2; omega) SM.out.2 (by rw [aA]; omega)).mono ?_;rintro e w5 ⟨g, rfl, hg, hq5, -⟩;rw [Nat.gcd_comm] at hg;have hgd : dg W64 (Nat.gcd N' M') ≤ dg W64 N' := aR aB (Nat.gcd_le_left _ (by have := SN.out.2; omega));go_wp2_with fail
     refine (cB _ (Nat.gcd N' M') sh _ _ hg rfl (by rw [aA]; omega) (by omega)).mono ?_;rintro e w6 ⟨v2, rfl, hv2, hq6, hn6⟩;rw [Nat.mul_comm, ← HG.out] at hv2;go_wp2_with fail
     go_ret
     exact ⟨v2, rfl, hv2, (hq.trans hq5).trans hq6, hn6.more (hq.trans hq5).size⟩
    ·have hcmp : ∃ z : Int, cmp N' M' = z ∧ ¬ z < 0 := by
      rcases Nat.eq_or_lt_of_le hge with h | h
      ·exact ⟨0, by rw [h]; exact cmp_eq _, by omega⟩
      ·exact ⟨1, gT h, by omega⟩
     obtain ⟨z, hz, hz0⟩ := hcmp;have hcmp := Lib.hid hz; clear hz;go_wp2_with fail
     refine (aZ _ _ N' M' _ hxv hyv (by rw [aA]; omega) (by rw [aA]; omega)).mono ?_;rintro e w4 ⟨rfl, hq4⟩;rw [hcmp.out];have hq := (hq2.trans hq3).trans hq4;go_wp2_with fail
     refine (iW N' M' _ _ _ (Tb.q hT hq) (hxv.q hq4) (hyv.q hq4) hge (by have := SN.out.2; omega) SN.out.2 (by rw [aA]; omega)).mono ?_;rintro e w5 ⟨g, rfl, hg, hq5, -⟩;have hgd : dg W64 (Nat.gcd N' M') ≤ dg W64 N' := aR aB (Nat.gcd_le_left _ (by have := SN.out.2; omega));go_wp2_with fail
     refine (cB _ (Nat.gcd N' M') sh _ _ hg rfl (by rw [aA]; omega) (by omega)).mono ?_;rintro e w6 ⟨v2, rfl, hv2, hq6, hn6⟩;rw [Nat.mul_comm, ← HG.out] at hv2;go_wp2_with fail
     go_ret
     exact ⟨v2, rfl, hv2, (hq.trans hq5).trans hq6, hn6.more (hq.trans hq5).size⟩
set_option maxRecDepth 100000 in
theorem iZ (x : Value) (N n : Nat) (z : Int) (w : World) (hx : Nm w x N) (hz : z = (n : Int)) (h : n * dg W64 N + 9 ≤ LIM) (hn : n ≤ 4611686018427387904) :
  Calls Tryz.prog 180 #[x, .int .i64 z] w (fU (N ^ n) w) := by
 subst hz;obtain ⟨D, hD⟩ : ∃ D, dg W64 N = D := ⟨_, rfl⟩
 rw [hD] at h;go_enter Tryz.func180, Tryz.ntmps180
 go_wp2_with fail
 refine (fB 1 1 _ rfl (by decide)).mono ?_;rintro e w1 ⟨z0, rfl, hz0, hq0, hn0⟩;go_wp2_with fail
 go_loopw [0, 1, 5] (fun xv kv zv w1 => ∃ (k a e : Nat), kv = .int .i64 (k : Int) ∧ k ≤ n ∧ a + k * e = n ∧ 0 < e ∧ Nm w1 xv (N ^ e) ∧ Nm w1 zv (N ^ a) ∧ Nw w.heap.size zv ∧ Q w w1) (fun _ kv _ _ => (intOf kv).toNat)
 case atStart => exact ⟨n, 0, 1, rfl, Nat.le_refl _, by omega, by omega, by rw [Nat.pow_one]; exact hx.q hq0, hz0, hn0, hq0⟩
 case round =>
  obtain ⟨k, a, e, rfl, hk, ha, he0, hxv, hzv, hnv, hq⟩ := hrel;rcases Nat.eq_zero_or_pos k with rfl | hkp
  ·have ha : a = n := (by omega);subst ha;go_wp2_with fail
   go_ret
   exact ⟨_, rfl, hzv, hq, hnv⟩
  ·have r1 := aBI (D := D) ha hkp;have r2 := fun h2 => aBJ (D := D) (a := a) (k := k) (e := e) (n := n) ha h2;obtain ⟨k2, hk2⟩ : ∃ k2 : Nat, k / 2 = k2 := ⟨_, rfl⟩
   have hk2' : (k : Int) / 2 = (k2 : Int) := (by omega);have hk3 : k2 ≤ k := (by omega);have hk4 : k2 < k := (by omega);have hDe : dg W64 (N ^ e) ≤ e * D + 1 := (by rw [← hD]; exact Nat.le_trans (xS aB) (by split <;> omega));have hDa : dg W64 (N ^ a) ≤ a * D + 1 := (by rw [← hD]; exact Nat.le_trans (xS aB) (by split <;> omega));have hDe' : e ≠ 0 → dg W64 (N ^ e) ≤ e * D := fun he => (by rw [← hD]; exact Nat.le_trans (xS aB) (by rw [if_neg he]; omega));have hkne : k2 ≠ 0 → 0 < k / 2 := (by omega);rcases Nat.mod_two_eq_zero_or_one k with hm | hm
   ·have hm' : ((k : Int) % 2 == 1) = false := (by rw [beq_eq_false_iff_ne]; omega);have he := aBa ha hm;rw [hk2] at he r2;have HE := Lib.hid he;have hkp2 : 0 < k2 := (by omega);have r2 := r2 hkp2;clear he hk2 ha hm hkne;go_wp2_with fail
    refine (dP _ _ _ _ _ hxv hxv ?_).mono ?_
    ·rw [aA] at h ⊢;have := hDe' (by omega); omega
    rintro e1 w2 ⟨v, rfl, hv, hq2, _⟩;rw [← Nat.pow_add, ← Nat.two_mul] at hv;go_wp2_with fail
    exact ⟨⟨k2, a, 2 * e, rfl, by omega, HE.out, by omega, hv, hzv.q hq2, hnv, hq.trans hq2⟩, by simp [intOf]; omega⟩
   ·have hm' : ((k : Int) % 2 == 1) = true := (by rw [beq_iff_eq]; omega);have he := aBK ha hm;rw [hk2] at he r2;have HE := Lib.hid he;clear he ha hm;rcases Nat.eq_zero_or_pos k2 with rfl | hkp2
    ·clear hk2 hkne r2;go_wp2_with fail
     refine (dP _ _ _ _ _ hzv hxv ?_).mono ?_
     ·rw [aA] at h ⊢;have := hDe' (by omega); omega
     rintro e1 w2 ⟨v, rfl, hv, hq2, hn2⟩;rw [← Nat.pow_add] at hv;go_wp2_with fail
     exact ⟨⟨0, a + e, e, rfl, by omega, by have := HE.out; omega, he0, hxv.q hq2, hv, hn2.more hq.size, hq.trans hq2⟩, by simp [intOf]; omega⟩
    ·have r2 := r2 hkp2;clear hk2 hkne;go_wp2_with fail
     refine (dP _ _ _ _ _ hzv hxv ?_).mono ?_
     ·rw [aA] at h ⊢;have := hDe' (by omega); omega
     rintro e1 w2 ⟨v, rfl, hv, hq2, hn2⟩;rw [← Nat.pow_add] at hv;go_wp2_with fail
     refine (dP _ _ _ _ _ (hxv.q hq2) (hxv.q hq2) ?_).mono ?_
     ·rw [aA] at h ⊢;have := hDe' (by omega); omega
     rintro e1 w3 ⟨u, rfl, hu, hq3, _⟩;rw [← Nat.pow_add, ← Nat.two_mul] at hu;go_wp2_with fail
     exact ⟨⟨k2, a + e, 2 * e, rfl, by omega, HE.out, by omega, hu, hv.q hq3, hn2.more hq.size, (hq.trans hq2).trans hq3⟩, by simp [intOf]; omega⟩
theorem byte_at {s : ByteArray} {i : Nat} (h : i < s.size) : s.data.toList[i]? = some (s[i]'h) := by
 rw [List.getElem?_eq_getElem (by rw [Array.length_toList]; exact h)];rfl
theorem qJ (s : ByteArray) : s.data.toList.length = s.size := by rw [Array.length_toList]; rfl
theorem vN {l : List UInt8} {i : Nat} {c : UInt8} (h : aY (l.take i)) (hc : l[i]? = some c) (h1 : 48 ≤ c.toNat) (h2 : c.toNat ≤ 57) : aY (l.take (i + 1)) := by
 obtain ⟨hi, rfl⟩ := List.getElem?_eq_some_iff.1 hc;intro d hd;rw [List.take_add_one, List.getElem?_eq_getElem hi] at hd;rcases List.mem_append.1 hd with hd | hd
 ·exact h d hd
 ·simp at hd;rw [hd];exact ⟨h1, h2⟩
def jY (l : List UInt8) : Bool := decide (aY l ∧ l ≠ [])
theorem zG {l : List UInt8} {i : Nat} {c : UInt8} (hc : l[i]? = some c) (h : ¬ (48 ≤ c.toNat ∧ c.toNat ≤ 57)) : jY l = false := by
 obtain ⟨hi, rfl⟩ := List.getElem?_eq_some_iff.1 hc;exact decide_eq_false (fun h1 => h (h1.1 _ (List.getElem_mem hi)))
theorem aDx {l : List UInt8} (h : aY l) : jY l = !l.isEmpty := by
 unfold jY;cases l with
 | nil => simp
 | cons c r => simp [h]
set_option maxRecDepth 1000000 in
theorem jZ (s : ByteArray) (w : World) :
  Calls Tryz.prog 96 #[.string s] w fun e w' => e = .returned (.bool (jY s.data.toList)) ∧ Q w w' := by
 go_enter Tryz.func96, Tryz.ntmps96
 go_wp2_with fail
 go_loopw [4] (fun rv w' => ∃ pos : Nat, w' = w.iter s pos ∧ pos ≤ s.size ∧ Hid (aY (s.data.toList.take pos))) (fun _ w' => s.size - w'.iterPos w.heap.size)
 case atStart => exact ⟨0, rfl, by omega, Lib.hid (by intro c hc; simp at hc)⟩
 case round =>
  obtain ⟨pos, rfl, hpos, hall⟩ := hrel;by_cases hp : pos < s.size
  ·have hby := byte_at hp;by_cases ha : (s[pos]'hp).toNat < 128
   ·have hnx : ∀ ty, (Instr.next (.pointer (some ⟨w.heap.size, 0, none⟩)) true ty).run Tryz.prog (w.iter s pos) = _ := fun ty => run_next_ascii w s pos ty hp ha;generalize s[pos]'hp = b at *
    have HB := Lib.hid hby; clear hby;by_cases h1 : 48 ≤ b.toNat ∧ b.toNat ≤ 57
    ·have h2 : ¬ ((b.toNat : Int) < 48) := (by omega);have h3 : ¬ (57 < (b.toNat : Int)) := (by omega);have HN := Lib.hid (vN hall.out HB.out h1.1 h1.2);clear h1;go_wp2_with fail
     exact ⟨⟨pos + 1, rfl, by omega, HN⟩, by rw [World.iterPos_iter, World.iterPos_iter]; omega⟩
    ·have hf := Lib.hid (zG HB.out h1);rcases (show b.toNat < 48 ∨ 57 < b.toNat by omega) with h2 | h2
     ·have h3 : (b.toNat : Int) < 48 := (by omega);go_wp2_with fail
      go_ret
      exact ⟨by rw [hf.out]; rfl, (Q.refl w).alloc _⟩
     ·have h3 : ¬ (b.toNat : Int) < 48 := (by omega);have h4 : 57 < (b.toNat : Int) := (by omega);go_wp2_with fail
      go_ret
      exact ⟨by rw [hf.out]; rfl, (Q.refl w).alloc _⟩
   ·have hhi := decode_high s pos hp (by omega);have hf := Lib.hid (zG hby (by omega));have hnx : ∀ ty, (Instr.next (.pointer (some ⟨w.heap.size, 0, none⟩)) true ty).run Tryz.prog (w.iter s pos) = _ := fun ty => run_next_any w s pos ty hp;obtain ⟨r, hr⟩ : ∃ r, (Utf8.decode s pos).1 = r := ⟨_, rfl⟩
    obtain ⟨k, hk⟩ : ∃ k, (Utf8.decode s pos).2 = k := ⟨_, rfl⟩
    rw [hr, hk] at hnx;rw [hr] at hhi;have h3 : ¬ (r : Int) < 48 := (by omega);have h4 : 57 < (r : Int) := (by omega);clear hr hk hby ha;go_wp2_with fail
    go_ret
    exact ⟨by rw [hf.out]; rfl, (Q.refl w).alloc _⟩
  ·have hnx : ∀ ty, (Instr.next (.pointer (some ⟨w.heap.size, 0, none⟩)) true ty).run Tryz.prog (w.iter s pos) = _ := fun ty => run_next_end w s pos ty hp;have hal := hall.out;rw [List.take_of_length_le (by rw [qJ]; omega)] at hal;have HAL := Lib.hid hal; clear hal;go_wp2_with fail
   go_ret
   refine ⟨?_, (Q.refl w).alloc _⟩;show Ending.returned (.bool (!s.toList.isEmpty)) = _;rw [ByteArray.toList_eq];rw [aDx HAL.out]
set_option maxRecDepth 100000 in
theorem nS (n : Nat) (z : Int) (w : World) (hz : z = (n : Int)) (h : n + 9 ≤ LIM) : Calls Tryz.prog 161 #[.int .i64 z] w (fU (10 ^ n) w) := by
 subst hz;rw [aA] at h;have hd : dg W64 10 = 1 := by
  have h1 := (aD aB 10 1).2 (by decide);have h2 : ¬ dg W64 10 ≤ 0 := (by rw [aD aB]; decide);omega
 have HD := Lib.hid hd; clear hd;go_enter Tryz.func161, Tryz.ntmps161
 go_wp2_with fail
 refine (fB 10 10 _ rfl (by decide)).mono ?_;rintro e w1 ⟨v, rfl, hv, hq1, -⟩;go_wp2_with fail
 refine (iZ _ 10 n _ _ hv rfl (by rw [HD.out, aA]; omega) (by omega)).mono ?_;rintro e w2 ⟨v2, rfl, hv2, hq2, hn2⟩;go_wp2_with fail
 go_ret
 exact ⟨v2, rfl, hv2, hq1.trans hq2, hn2.more hq1.size⟩
set_option maxRecDepth 100000 in
theorem kR (x : Value) (N : Nat) (w : World) (hx : Nm w x N) (h : 100 * dg W64 N + 100 ≤ LIM) :
  Calls Tryz.prog 89 #[x] w fun e w' => e = .returned (.int .i64 (((dec N).length : Nat) : Int)) ∧ Q w w' := by
 rw [aA] at h;obtain ⟨A, c, rfl, hc⟩ := hx.parts;have hbl : bl N ≤ 64 * dg W64 N := gM 64 N (by decide);obtain ⟨l, hl⟩ : ∃ l, dg W64 N = l := ⟨_, rfl⟩
 have HL := Lib.hid hl;rw [hl] at hx hbl h hc ⊢;rcases Nat.eq_zero_or_pos N with h0 | h0
 ·subst h0;rw [aQ] at hl;subst hl;have e1 : (dec 0).length = 1 := (by rw [bE (by decide)]; rfl);rw [e1];clear HL e1;go_enter Tryz.func89, Tryz.ntmps89
  go_wp2_with fail
  go_ret
  exact ⟨rfl, Q.refl _⟩
 ·have hl0 : ((l : Int) == 0) = false := by
   rw [beq_eq_false_iff_ne];intro h1;have h2 : l = 0 := (by omega);have := aW aB (hl.trans h2);omega
  clear hl;have hb0 : 0 < bl N := (by rw [iE h0]; omega);obtain ⟨n, hn⟩ : ∃ n, bl N = n := ⟨_, rfl⟩
  rw [hn] at hbl hb0;obtain ⟨a, ha⟩ : ∃ a, (n - 1) * 5553023288523357132 / 18446744073709551616 = a := ⟨_, rfl⟩
  obtain ⟨a', ha'⟩ : ∃ a, (n - 1) * 5553023288523357132 % 18446744073709551616 = a := ⟨_, rfl⟩
  obtain ⟨b, hb⟩ : ∃ b, n * 5553023288523357133 / 18446744073709551616 = b := ⟨_, rfl⟩
  obtain ⟨b', hb'⟩ : ∃ b, n * 5553023288523357133 % 18446744073709551616 = b := ⟨_, rfl⟩
  obtain ⟨k1, k2⟩ := aBT h0 hn ha hb;have hbn : b ≤ n := (by rw [← hb]; omega);have e1 : (dec N).length = dg 10 N := (by rw [dU, if_neg (by omega)]);rw [e1];obtain ⟨D, hD⟩ : ∃ D, dg 10 N = D := ⟨_, rfl⟩
  rw [hD] at k1 k2 ⊢;have HN := Lib.hid hn; have HA := Lib.hid (And.intro ha ha'); have HB := Lib.hid (And.intro hb hb'); have HD := Lib.hid hD;clear hn ha ha' hb hb' hD e1;have i1 : (n : Int) - 1 = ((n - 1 : Nat) : Int) := (by omega);have hnW : n < 18446744073709551616 := (by omega);go_enter Tryz.func89, Tryz.ntmps89
  go_wp2_with fail
  refine (bO _ N _ hx (by rw [HL.out, aA]; omega)).mono ?_;rintro e w1 ⟨rfl, rfl⟩;rw [HN.out];go_wp2_with fail
  refine (mV (n - 1) 5553023288523357132 a a' (by rw [aU]; omega) (by decide) HA.out.1 HA.out.2 _).mono ?_;rintro e w1 ⟨rfl, rfl⟩;go_wp2_with fail
  refine (mV n 5553023288523357133 b b' (by rw [aU]; omega) (by decide) HB.out.1 HB.out.2 _).mono ?_;rintro e w1 ⟨rfl, rfl⟩;go_wp2_with fail
  go_loopw [8] (fun cv w1 => ∃ k : Nat, cv = .int .i64 (k : Int) ∧ a + 1 ≤ k ∧ k ≤ D ∧ Q w w1) (fun cv _ => D - (intOf cv).toNat)
  case atStart => exact ⟨a + 1, congrArg (Value.int _) (by omega), by omega, by omega, Q.refl _⟩
  case round =>
   obtain ⟨k, rfl, ka, kD, hq⟩ := hrel;rcases Nat.lt_or_ge k (b + 1) with hlt | hge
   ·have j1 : (k : Int) < (b : Int) + 1 := (by omega);have hpk : dg W64 (10 ^ k) ≤ k + 1 := by
     rw [aD aB];exact Nat.lt_of_le_of_lt (Nat.pow_le_pow_left (by decide) k) (Nat.pow_lt_pow_right aB (by omega))
    have hx1 := hx.q hq;have hlt := aBU (N := N) (k := k);rw [HD.out] at hlt;by_cases hkD : k < D
    ·have hcmp : ∃ z : Int, cmp N (10 ^ k) = z ∧ 0 ≤ z := by
      rcases Nat.eq_or_lt_of_le (hlt.1 hkD) with h | h
      ·exact ⟨0, by rw [h]; exact cmp_eq _, by omega⟩
      ·exact ⟨1, gT h, by omega⟩
     obtain ⟨z, hz, hz0⟩ := hcmp;have hcmp := Lib.hid hz; clear hz hlt;have hz1 : (0 : Int) ≤ z := hz0;go_wp2_with fail
     refine (nS k _ _ rfl (by rw [aA]; omega)).mono ?_;rintro e w2 ⟨v, rfl, hv, hq2, -⟩;go_wp2_with fail
     refine (aZ _ _ N (10 ^ k) _ (hx1.q hq2) hv (by rw [HL.out, aA]; omega) (by rw [aA]; omega)).mono ?_;rintro e w3 ⟨rfl, hq3⟩;rw [hcmp.out];have hq' := (hq.trans hq2).trans hq3;go_wp2_with fail
     exact ⟨⟨k + 1, congrArg (Value.int _) (by omega), by omega, by omega, hq'⟩, by simp [intOf]; omega⟩
    ·have hcmp : cmp N (10 ^ k) = -1 := fQ (by have := fun h => hkD (hlt.2 h); omega);have hcmp := Lib.hid hcmp; clear hlt;obtain rfl : k = D := (by omega);go_wp2_with fail
     refine (nS k _ _ rfl (by rw [aA]; omega)).mono ?_;rintro e w2 ⟨v, rfl, hv, hq2, -⟩;go_wp2_with fail
     refine (aZ _ _ N (10 ^ k) _ (hx1.q hq2) hv (by rw [HL.out, aA]; omega) (by rw [aA]; omega)).mono ?_;rintro e w3 ⟨rfl, hq3⟩;rw [hcmp.out];have hq' := (hq.trans hq2).trans hq3;go_wp2_with fail
     go_ret
     exact ⟨rfl, hq'⟩
   ·have j1 : ¬ (k : Int) < (b : Int) + 1 := (by omega);obtain rfl : k = D := (by omega);go_wp2_with fail
    go_ret
    exact ⟨rfl, hq⟩
structure Fd (l : List UInt8) (n pos j p u : Nat) (zs : List Nat) : Prop where
 lz : zs.length = n
 mz : ∀ d ∈ zs, d < W64
 val : dv (l.take pos) = vl W64 zs * u + p
 pu : p < u
 hu : u = 10 ^ j
 hj : j < 19
theorem Fd.fits {l : List UInt8} {n pos j p u : Nat} {zs : List Nat} (h : Fd l n pos j p u zs) (hl : aY l) (hn : l.length / 19 + 1 = n) : u * vl W64 zs + p < W64 ^ n := by
 have h1 := rD (hl.take pos);rw [h.val, Nat.mul_comm] at h1;have h2 : 10 ^ (l.take pos).length ≤ 10 ^ l.length := Nat.pow_le_pow_right (by decide) (by rw [List.length_take]; omega);have h3 := xY l.length;rw [hn] at h3;exact Nat.lt_of_lt_of_le h1 (Nat.le_trans h2 (Nat.le_of_lt h3))
theorem Fd.start {l : List UInt8} (n : Nat) : Fd l n 0 0 0 1 (List.replicate n 0) := ⟨by simp, cZ (by decide), by simp [iD, dv], by decide, rfl, by decide⟩
theorem Fd.digit {l : List UInt8} {n pos j p u d : Nat} {zs : List Nat} (h : Fd l n pos j p u zs) {c : UInt8} (hc : l[pos]? = some c) (hd : c.toNat - 48 = d) (hd9 : d < 10) :
  dv (l.take (pos + 1)) = vl W64 zs * (10 * u) + (10 * p + d) ∧ 10 * p + d < 10 * u ∧ 10 * u = 10 ^ (j + 1) ∧ 10 * u ≤ 10000000000000000000 := by
 obtain ⟨hi, rfl⟩ := List.getElem?_eq_some_iff.1 hc;have h1 := aBW h.val h.pu hd9;refine ⟨?_, h1.2, by rw [h.hu, Nat.pow_succ, Nat.mul_comm], ?_⟩
 ·rw [pU hi, hd]; exact h1.1
 ·have := h.hj;rw [h.hu, Nat.mul_comm, ← Nat.pow_succ];exact sF (by omega)
theorem Fd.flush {l : List UInt8} {n pos j p u c : Nat} {zs o : List Nat} (h : Fd l n pos j p u zs) (hl : aY l) (hn : l.length / 19 + 1 = n) (_ : o.length = n) (_ : ∀ d ∈ o, d < W64) (hv : vl W64 o + W64 ^ n * c = u * vl W64 zs + p) :
  vl W64 o = dv (l.take pos) := by
 have hf := h.fits hl hn;have hc : c = 0 := by
  rcases Nat.eq_zero_or_pos c with h0 | h0
  ·exact h0
  ·exfalso;have : W64 ^ n * 1 ≤ W64 ^ n * c := Nat.mul_le_mul_left _ h0;omega
 rw [hc, Nat.mul_zero, Nat.add_zero] at hv;rw [hv, h.val, Nat.mul_comm]
set_option maxRecDepth 1000000 in
theorem gK (s : ByteArray) (w : World) (hd : aY s.data.toList) (hs : s.size + 100 ≤ LIM) :
  Calls Tryz.prog 73 #[.string s] w (fU (dv s.data.toList) w) := by
 rw [aA] at hs;obtain ⟨n, hn⟩ : ∃ n, s.size / 19 + 1 = n := ⟨_, rfl⟩
 have hmk := iH n ((s.size : Int) / 19 + 1) (by omega) (by rw [aA]; omega);have hn' : s.data.toList.length / 19 + 1 = n := by rw [qJ]; exact hn
 have hnL : n ≤ 1099511627776 := by omega
 have HN := Lib.hid hn'; have HD := Lib.hid hd;have HM := Lib.hid hn;clear hn hn' hd;go_enter Tryz.func73, Tryz.ntmps73
 go_wp2_with fail
 have hq0 : Q w ((w.alloc (.cells (zs .u64 n) 140)).iter s 0) := ((Q.refl w).alloc _).alloc _;have hb0 : Blk .u64 ((w.alloc (.cells (zs .u64 n) 140)).iter s 0) w.heap.size 140 (List.replicate n 0) := (Blk.made w 140 n).alloc _;have hi0 : ((w.alloc (.cells (zs .u64 n) 140)).iter s 0).heap[w.heap.size + 1]? = some (.stringIter s 0) := by
  have h := World.iter_heap (w.alloc (.cells (zs .u64 n) 140)) s 0
  rwa [World.size_alloc] at h
 generalize (w.alloc (.cells (zs .u64 n) 140)).iter s 0 = w0 at *
 go_loopw [4, 5] (fun pv uv w1 => ∃ (pos j p u : Nat) (zs : List Nat), pv = .int .u64 (p : Int) ∧ uv = .int .u64 (u : Int) ∧ pos ≤ s.size ∧ Hid (Fd s.data.toList n pos j p u zs) ∧
     w1.heap[w.heap.size + 1]? = some (.stringIter s pos) ∧ Blk .u64 w1 w.heap.size 140 zs ∧ Q w w1) (fun _ _ w1 => s.size - w1.iterPos (w.heap.size + 1))
 case atStart => exact ⟨0, 0, 0, 1, _, rfl, rfl, by omega, Lib.hid (Fd.start n), hi0, hb0, hq0⟩
 case round =>
  obtain ⟨pos, j, p, u, zs, rfl, rfl, hpos, hfd, hit, hbz, hq⟩ := hrel;have so : Src wr w.heap.size 0 (some ⟨w.heap.size, 0, none⟩) zs := by
   have h := Src.own (off := 0) (n := n) hbz
   rwa [List.drop_zero, List.take_of_length_le (by rw [hfd.out.lz]; exact Nat.le_refl _)] at h
  have hu64 : u < W64 := (by rw [hfd.out.hu, aU]; have := sF (k := j) (by have := hfd.out.hj; omega); omega);have hp64 : p < W64 := Nat.lt_trans hfd.out.pu hu64;have hiter := iterPos_of hit;by_cases hp : pos < s.size
  ·have hby := byte_at hp;have hbd := HD.out _ (List.mem_of_getElem? hby);have hnx : ∀ ty, (Instr.next (.pointer (some ⟨w.heap.size + 1, 0, none⟩)) true ty).run Tryz.prog wr = _ := fun ty => Lib.run_next_ascii_at wr (w.heap.size + 1) s pos ty hit hp (by omega);have hitI := Lib.iterAt_heap wr (w.heap.size + 1) s pos (pos + 1) hit;have hbzI : Blk .u64 (wr.iterAt (w.heap.size + 1) s (pos + 1)) w.heap.size 140 zs := (Lib.iterAt_other wr (w.heap.size + 1) w.heap.size s (pos + 1) (by omega)).trans hbz;have hqI : Q w (wr.iterAt (w.heap.size + 1) s (pos + 1)) := Lib.below_iterAt hq (by omega) s (pos + 1);generalize s[pos]'hp = b at *
   obtain ⟨dd, hdd⟩ : ∃ dd, b.toNat - 48 = dd := ⟨_, rfl⟩
   obtain ⟨d1, d2, d3, d4⟩ := hfd.out.digit hby hdd (by omega);have i1 : (b.toNat : Int) - 48 = (dd : Int) := (by omega);have hdd9 : dd ≤ 9 := (by omega);obtain ⟨p1, hp1⟩ : ∃ q, 10 * p = q := ⟨_, rfl⟩
   obtain ⟨u2, hu2⟩ : ∃ q, 10 * u = q := ⟨_, rfl⟩
   rw [hp1] at d1 d2;rw [hu2] at d1 d2 d3 d4;obtain ⟨p2, hp2⟩ : ∃ q, p1 + dd = q := ⟨_, rfl⟩
   rw [hp2] at d1 d2;have i2 : 10 * (p : Int) = (p1 : Int) := (by omega);have i3 : 10 * (u : Int) = (u2 : Int) := (by omega);have i4 : (p1 : Int) + (dd : Int) = (p2 : Int) := (by omega);have i5 : IntKind.u64.wrap (p1 : Int) = (p1 : Int) := aJ (by omega);have i6 : IntKind.u64.wrap (u2 : Int) = (u2 : Int) := aJ (by omega);have i7 : IntKind.u64.wrap (p2 : Int) = (p2 : Int) := aJ (by omega);have i8 : IntKind.u64.wrap (dd : Int) = (dd : Int) := aJ (by omega);have hpW : p2 < W64 := (by rw [aU]; omega);have huW : u2 < W64 := (by rw [aU]; omega);have HB := Lib.hid (And.intro hby hbd);have HDG := Lib.hid (And.intro d1 (And.intro d2 d3));have HPU := Lib.hid (And.intro hpW huW);clear hby hdd d1 d2 d3 hp1 hu2 hp2 hbd hpW huW hu64 hp64 hit hbz hq so;generalize wr.iterAt (w.heap.size + 1) s (pos + 1) = wI at *
   by_cases hj : j + 1 < 19
   ·have hne : ((u2 : Int) == 10000000000000000000) = false := by
     rw [beq_eq_false_iff_ne];intro h;have h1 := HDG.out.2.2;have h2 : 10 ^ (j + 1) < 10 ^ 19 := Nat.pow_lt_pow_right (by decide) hj;have h3 : (10 : Nat) ^ 19 = 10000000000000000000 := (by decide);omega
    have HF : Hid (Fd s.data.toList n (pos + 1) (j + 1) p2 u2 zs) := Lib.hid ⟨hfd.out.lz, hfd.out.mz, HDG.out.1, HDG.out.2.1, HDG.out.2.2, hj⟩;have hiterI := iterPos_of hitI;go_wp2_with fail
    exact ⟨⟨pos + 1, j + 1, p2, u2, zs, rfl, rfl, by omega, HF, hitI, hbzI, hqI⟩, by rw [hiter, hiterI]; omega⟩
   ·have heq : ((u2 : Int) == 10000000000000000000) = true := by
     rw [beq_iff_eq];have h1 := HDG.out.2.2;have h0 := hfd.out.hj;have h3 : (10 : Nat) ^ 19 = 10000000000000000000 := (by decide);rw [show j + 1 = 19 by omega, h3] at h1;omega
    have soI : Src wI w.heap.size 0 (some ⟨w.heap.size, 0, none⟩) zs := by
     have h := Src.own (off := 0) (n := n) hbzI
     rwa [List.drop_zero, List.take_of_length_le (by rw [hfd.out.lz]; exact Nat.le_refl _)] at h
    go_wp2_with fail
    refine (qG (some ⟨w.heap.size, 0, none⟩) (some ⟨w.heap.size, 0, none⟩) n n n n w.heap.size 140 0 u2 p2 zs zs _ hbzI hfd.out.lz (by rw [hfd.out.lz]; omega) (fun _ => rfl) (Nat.le_refl _) (Nat.le_refl _) hnL soI hfd.out.mz HPU.out.2 HPU.out.1).mono ?_;rintro e w2 ⟨o, cy, rfl, -, lo, ho, hv, hb2, hg2⟩;have e2 : zs.take 0 ++ o ++ zs.drop (0 + n) = o := by
     rw [List.drop_of_length_le (by rw [hfd.out.lz]; omega)]; simp
    rw [e2] at hb2;have hfl : vl W64 o = dv (s.data.toList.take (pos + 1)) := by
     have hF : Fd s.data.toList n (pos + 1) 18 p2 u2 zs ∨ True := Or.inr trivial;have hfit : u2 * vl W64 zs + p2 < W64 ^ n := by
      have h1 := rD (HD.out.take (pos + 1));rw [HDG.out.1, Nat.mul_comm] at h1;have h2 : 10 ^ (s.data.toList.take (pos + 1)).length ≤ 10 ^ s.data.toList.length := Nat.pow_le_pow_right (by decide) (by rw [List.length_take]; omega);have h3 := xY s.data.toList.length;rw [HN.out] at h3;exact Nat.lt_of_lt_of_le h1 (Nat.le_trans h2 (Nat.le_of_lt h3))
     have hc : cy = 0 := by
      rcases Nat.eq_zero_or_pos cy with h0 | h0
      ·exact h0
      ·exfalso;have : W64 ^ n * 1 ≤ W64 ^ n * cy := Nat.mul_le_mul_left _ h0;omega
     rw [hc, Nat.mul_zero, Nat.add_zero] at hv;rw [hv, HDG.out.1, Nat.mul_comm]
    have HF : Hid (Fd s.data.toList n (pos + 1) 0 0 1 o) := Lib.hid ⟨lo, ho, by rw [hfl]; omega, by decide, rfl, by decide⟩;have hit2 := (Gr.heap hg2 (i := w.heap.size + 1) (by have := (Array.getElem?_eq_some_iff.1 hitI).1; exact this) (by omega)).trans hitI;have hq2 := Q.gr hqI hg2 (Nat.le_refl _);have hiter2 := iterPos_of hit2;clear e2 hfl hv lo;go_wp2_with fail
    exact ⟨⟨pos + 1, 0, 0, 1, o, rfl, rfl, by omega, HF, hit2, hb2, hq2⟩, by rw [hiter, hiter2]; omega⟩
  ·have hnx : ∀ ty, (Instr.next (.pointer (some ⟨w.heap.size + 1, 0, none⟩)) true ty).run Tryz.prog wr = _ := fun ty => Lib.run_next_end_at wr (w.heap.size + 1) s pos ty hit hp;go_wp2_with fail
   refine (qG (some ⟨w.heap.size, 0, none⟩) (some ⟨w.heap.size, 0, none⟩) n n n n w.heap.size 140 0 u p zs zs _ hbz hfd.out.lz (by rw [hfd.out.lz]; omega) (fun _ => rfl) (Nat.le_refl _) (Nat.le_refl _) hnL so hfd.out.mz hu64 hp64).mono ?_;rintro e w2 ⟨o, cy, rfl, -, lo, ho, hv, hb2, hg2⟩;have e2 : zs.take 0 ++ o ++ zs.drop (0 + n) = o := by
    rw [List.drop_of_length_le (by rw [hfd.out.lz]; omega)]; simp
   rw [e2] at hb2;have hfl := hfd.out.flush HD.out HN.out lo ho hv;rw [List.take_of_length_le (by rw [qJ]; omega)] at hfl;have HFL := Lib.hid hfl;have hq2 := Q.gr hq hg2 (Nat.le_refl _);clear e2 hfl hv;go_wp2_with fail
   refine (fH _ n n o _ lo (Nat.le_refl _) (by omega) (Rw.of_blk hb2) ho).mono ?_;rintro e w3 ⟨v, rfl, hnm, hnw, rfl⟩;rw [HFL.out] at hnm;go_wp2_with fail
   go_ret
   exact ⟨v, rfl, hnm, hq2, hnw _ (Nw.at_ (Nat.le_refl _))⟩
end Go.Proofs.YtgpacgadpnpjjaaGreatDoor
