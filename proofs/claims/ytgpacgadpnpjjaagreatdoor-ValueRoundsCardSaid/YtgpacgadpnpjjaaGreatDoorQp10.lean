/- ValueParses: for every string the law holds: what Check, Parse, Text and Digits return is what the document says. No condition.. Part of the proof: texts Va9 Wa2 Wa6. -/
import Derived.BigQuiet
import Derived.Deep.DeepMust
import Derived.Deep.QuietTactic
import Derived.WalkKit
import Derived.WalkLawsBesides
import Derived.WalkSpells
import Derived.Test.YtgpacgadpnpjjaaGreatDoorQp01
import Derived.Test.YtgpacgadpnpjjaaGreatDoorQp03
import Derived.Test.YtgpacgadpnpjjaaGreatDoorQp04
import Derived.Test.YtgpacgadpnpjjaaGreatDoorQp08
import Derived.Test.YtgpacgadpnpjjaaGreatDoorQp09
set_option maxHeartbeats 1000000
namespace Go.Proofs.YtgpacgadpnpjjaaGreatDoor
open Go.RowKit
open Ma Me
theorem Me.Rw.opt {w : World} {A : Option Addr} {xs : List Nat} {k d : Nat} (h : Rw w A xs) (hd : xs[k]? = some d) : ∃ b o, A = some ⟨b, o, none⟩ ∧ w.cell? ⟨b, o + k, none⟩ = some (.int .u64 (d : Int)) := by
 obtain ⟨hk, rfl⟩ := List.getElem?_eq_some_iff.1 hd;obtain ⟨b, o, h1, _, h2⟩ := h.at_ hk;exact ⟨b, o, h1, h2⟩
theorem aDq {U v y2 p2 g r G : Nat} (h : Gw U v y2 p2 g r) (hv : 0 < v) (hv2 : v < 18446744073709551616) (hy2 : y2 < 18446744073709551616) (hp2 : p2 < 18446744073709551616) (hG : (U * 18446744073709551616 + p2) / (v * 18446744073709551616 + y2) = G) : ∃ hi lo : Nat, g * y2 / 18446744073709551616 = hi ∧ g * y2 % 18446744073709551616 = lo ∧ ((((hi : Int) < (r : Int) ∨ ¬ (hi : Int) < (r : Int) ∧ hi = r ∧ (lo : Int) ≤ (p2 : Int)) ∧ Hid (g = G)) ∨ (¬ (hi : Int) < (r : Int) ∧ ((((hi : Int) == (r : Int)) = false) ∨ hi = r ∧ ¬ (lo : Int) ≤ (p2 : Int)) ∧ ∃ p s : Nat, (g : Int) - 1 = (p : Int) ∧ Hid (p < 18446744073709551616 ∧ g = p + 1) ∧ IntKind.u64.wrap (p : Int) = (p : Int) ∧ IntKind.u64.wrap ((r : Int) + (v : Int)) = (s : Int) ∧
     (((s : Int) < (v : Int) ∧ Hid (p = G)) ∨ (¬ (s : Int) < (v : Int) ∧ Hid (Gw U v y2 p2 p s))))) := by
 refine ⟨_, _, rfl, rfl, ?_⟩;have rl := h.rl;have gl := h.gl;have hm := Nat.div_add_mod (g * y2) 18446744073709551616;have hl := Nat.mod_lt (g * y2) (show 0 < 18446744073709551616 by decide);have st := h.stop hv;have go := h.over hv;rw [hG] at st go;obtain ⟨M, hM⟩ : ∃ M, g * y2 = M := ⟨_, rfl⟩
 rw [hM] at st go hm hl ⊢;obtain ⟨hi, hhi⟩ : ∃ hi, M / 18446744073709551616 = hi := ⟨_, rfl⟩
 obtain ⟨lo, hlo⟩ : ∃ lo, M % 18446744073709551616 = lo := ⟨_, rfl⟩
 rw [hhi, hlo] at hm;rw [hlo] at hl;rw [hhi, hlo];rcases Nat.lt_or_ge (r * 18446744073709551616 + p2) M with hc | hc
 ·right;obtain ⟨p, e, x, y⟩ := go hc;refine ⟨by omega, ?_, p, (r + v) % 18446744073709551616, by omega, Lib.hid ⟨by omega, e⟩, aJ (by omega), by rw [IntKind.wrap_u64]; omega, ?_⟩
  ·rcases Nat.lt_or_ge r hi with h1 | h1
   ·exact Or.inl (by rw [beq_eq_false_iff_ne]; omega)
   ·exact Or.inr ⟨by omega, by omega⟩
  ·rcases Nat.lt_or_ge (r + v) 18446744073709551616 with h1 | h1
   ·right;refine ⟨by omega, Lib.hid ⟨?_, by omega, by omega, by rw [hG]; exact y⟩⟩;rw [Nat.mod_eq_of_lt h1]; exact x
   ·left;refine ⟨by omega, ?_⟩;have := Gw.brk hv hy2 h1 (by omega) x (by rw [hG]; exact y);rw [hG] at this;exact Lib.hid this
 ·left;refine ⟨?_, Lib.hid (st hc)⟩;rcases Nat.lt_or_ge hi r with h1 | h1
  ·exact Or.inl (by omega)
  ·exact Or.inr ⟨by omega, by omega, by omega⟩
set_option maxRecDepth 100000 in
theorem aAk (Ap Ay : Option Addr) (n m cp cy : Nat) (ps ys : List Nat) (w : World) (rp : Rw w Ap ps) (ry : Rw w Ay ys) (lp : ps.length = m) (ly : ys.length = n) (hm : m = n + 1) (h2 : 2 ≤ n) (hn40 : n ≤ 1099511627776) (hp : ∀ d ∈ ps, d < W64) (hy : ∀ d ∈ ys, d < W64) (hP : vl W64 ps < vl W64 ys * W64) (hn : W64 ^ n ≤ 2 * vl W64 ys) : Calls Tryz.prog 245 #[.slice Ap m cp, .slice Ay n cy] w
   fun e w' => ∃ g : Nat, e = .returned (.int .u64 (g : Int)) ∧ vl W64 ps / vl W64 ys ≤ g ∧ g ≤ vl W64 ps / vl W64 ys + 1 ∧ g < W64 ∧ ∃ k, w' = w.drewN k := by
 obtain ⟨k, rfl⟩ : ∃ k, n = k + 2 := ⟨n - 2, by omega⟩
 subst hm;obtain ⟨v, y2, pn, pm, p2, e1, e2, e3, e4, e5, b1, b2, b3, b4, b5, hv, g1, g2⟩ := aAf ly lp hy hp hP hn;obtain ⟨by_, oy, rfl, c1⟩ := ry.opt e1;obtain ⟨_, _, hA, c2⟩ := ry.opt e2;cases hA;obtain ⟨bp, op, rfl, c3⟩ := rp.opt e3;obtain ⟨_, _, hA, c4⟩ := rp.opt e4;cases hA;obtain ⟨_, _, hA, c5⟩ := rp.opt e5;cases hA;obtain ⟨Qg, hQg⟩ : ∃ Qg, vl W64 ps / vl W64 ys = Qg := ⟨_, rfl⟩
 have hW : ∀ a b : Nat, vl 18446744073709551616 ps / vl 18446744073709551616 ys = Qg := fun _ _ => hQg;rw [hW 0 0] at g1 g2;rw [hQg];clear hQg hW e1 e2 e3 e4 e5 lp ly hp hy hP hn rp ry;have i1 : (k : Int) + 2 - 1 = ((k + 1 : Nat) : Int) := by omega
 have i2 : (k : Int) + 2 - 2 = ((k : Nat) : Int) := by omega
 rcases Nat.lt_or_ge pn v with hlt | hge
 ·have hlt' : ¬ (v : Int) ≤ (pn : Int) := (by omega);have I := Gw.init (pm := pm) (v := v) (y2 := y2) (p2 := p2) hlt b1 b4 b5;have g2 := g2 hlt;clear g1;obtain ⟨U, hU⟩ : ∃ U, pn * 18446744073709551616 + pm = U := ⟨_, rfl⟩
  rw [hU] at I g2;obtain ⟨G, hG⟩ : ∃ G, (U * 18446744073709551616 + p2) / (v * 18446744073709551616 + y2) = G := ⟨_, rfl⟩
  have g2 := g2 G hG.symm;obtain ⟨ga, hga⟩ : ∃ ga, U / v = ga := ⟨_, rfl⟩
  obtain ⟨ra, hra⟩ : ∃ ra, U % v = ra := ⟨_, rfl⟩
  rw [hga, hra] at I;have HI := Lib.hid I;have HB := Lib.hid (And.intro b1 (And.intro b2 (And.intro b3 (And.intro b4 b5))));have HG := Lib.hid hG;have HU1 : Hid ((pn * W64 + pm) / v = ga) := Lib.hid (by rw [aU, hU]; exact hga);have HU2 : Hid ((pn * W64 + pm) % v = ra) := Lib.hid (by rw [aU, hU]; exact hra);have HV := Lib.hid hv;have HL := Lib.hid hlt;have HF := Lib.hid g2;have hGl := I.gl;clear I hG hU hga hra hv hlt g2 b1 b2 b3 b4 b5 hGl;go_enter Tryz.func245, Tryz.ntmps245
  go_wp2_with fail
  go_quiet ((go_at_call 221; refine Calls.quiet_of (aAK pn pm v ga ra _ (by rw [aU]; exact HB.out.1) HL.out (by rw [aU]; exact HB.out.2.2.2.1) HU1.out HU2.out)))
  go_wp2_with fail
  go_loopw [7, 8] (fun gv rv w2 => ∃ g r : Nat, gv = .int .u64 (g : Int) ∧ rv = .int .u64 (r : Int) ∧ Gw U v y2 p2 g r ∧ ∃ m, w2 = w.drewN m) (fun gv _ _ => (intOf gv).toNat)
  case atStart => exact ⟨ga, ra, rfl, rfl, HI.out, _, rfl⟩
  case round =>
   obtain ⟨g, r, rfl, rfl, hg, m, rfl⟩ := hrel;obtain ⟨b1, b2, b3, b4, b5⟩ := HB.out;have hgl : g < W64 := hg.gl;obtain ⟨hi, lo, k1, k2, k3⟩ := aDq hg (by have := HV.out; omega) b1 b2 b5 HG.out;have K1 := Lib.hid k1; have K2 := Lib.hid k2;have HR := Lib.hid hg.rl;have HY := Lib.hid b2;have HGL := Lib.hid hgl;clear k1 k2 hg b1 b2 b3 b4 b5 hgl;rcases k3 with ⟨k3 | ⟨k3, rfl, k4⟩, k5⟩ | ⟨k3, k4 | ⟨rfl, k4⟩, p, s, k5, K6, k8, k9, ⟨k10, k11⟩ | ⟨k10, k11⟩⟩
   all_goals
    go_wp2_with fail
    refine (mV g y2 hi lo HGL.out HY.out K1.out K2.out _).mono ?_;rintro e w2 ⟨rfl, rfl⟩;go_wp2_with fail
    first
    | (go_ret
       exact ⟨g, rfl, by rw [k5.out]; exact HF.out.1, by rw [k5.out]; exact HF.out.2, HGL.out, _, rfl⟩)
    | (go_ret
       exact ⟨p, rfl, by rw [k11.out]; exact HF.out.1, by rw [k11.out]; exact HF.out.2, by rw [aU]; exact K6.out.1, _, rfl⟩)
    | (refine ⟨⟨p, s, rfl, rfl, k11.out, _, rfl⟩, ?_⟩
       simp only [intOf]; omega)
 ·have hge' : (v : Int) ≤ (pn : Int) := (by omega);have g1 := g1 hge;clear g2 hge;have HF := Lib.hid g1;clear b1 b2 b3 b4 b5 hv;go_enter Tryz.func245, Tryz.ntmps245
  go_wp2_with fail
  go_ret
  exact ⟨18446744073709551615, rfl, HF.out.1, HF.out.2, by decide, 0, rfl⟩
set_option maxRecDepth 100000 in
theorem mW (Az Ax Ay : Option Addr) (nz cz nx cx n cy gz t off c0 : Nat) (xs ys cs : List Nat) (w : World) (g : Nat → Nat → Nat → Nat × Nat) (Pc : Nat → Prop) (hg : ∀ x y c, x < W64 → y < W64 → Pc c → (g x y c).1 < W64 ∧ Pc (g x y c).2) (hc0 : Pc c0)
  (H : ∀ (x y c : Nat) (w1 : World), x < W64 → y < W64 → Pc c → w.grownBy w1 (some gz) → Calls Tryz.prog 231 #[.int .u64 (x : Int), .int .u64 (y : Int), .int .u64 (c : Int)] w1 fun e w' => e = .returned (.tuple #[.int .u64 ((g x y c).1 : Int), .int .u64 ((g x y c).2 : Int)]) ∧ Q w1 w')
  (hb : Blk .u64 w gz t cs) (hoff : off + n ≤ cs.length) (hz : 0 < n → Az = some ⟨gz, off, none⟩) (hnz : n ≤ cz) (hnx : n ≤ cx) (hny : n ≤ cy) (hn : n ≤ 1099511627776) (lx : xs.length = n) (ly : ys.length = n) (sx : Src w gz off Ax xs) (sy : Src w gz off Ay ys) (hx : ∀ d ∈ xs, d < W64) (hy : ∀ d ∈ ys, d < W64) : Calls Tryz.prog 183 #[.slice Az nz cz, .slice Ax nx cx, .slice Ay n cy, .int .u64 (c0 : Int), .func (.func 231) #[] #[]] w
   fun e w' => e = .returned (.int .u64 ((aC g xs ys c0).2 : Int)) ∧ Blk .u64 w' gz t (cs.take off ++ (aC g xs ys c0).1 ++ cs.drop (off + n)) ∧ w.grownBy w' (some gz) := by
 have LX := Lib.hid lx; have LY := Lib.hid ly; clear lx ly;have HH := Lib.hid H; clear H;go_enter Tryz.func183, Tryz.ntmps183
 go_wp2_with fail
 go_quiet (fail)
 go_wp2_with fail
 go_loopw [3, 23] (fun cv iv w1 => ∃ k : Nat, k ≤ n ∧ iv = .int .i64 (k : Int) ∧ cv = .int .u64 ((aC g (xs.take k) (ys.take k) c0).2 : Int) ∧ Pc (aC g (xs.take k) (ys.take k) c0).2 ∧
     Part w w1 gz t off k cs (aC g (xs.take k) (ys.take k) c0).1) (fun _ iv _ => n - (intOf iv).toNat)
 case atStart => exact ⟨0, by omega, rfl, rfl, hc0, ⟨by rw [List.take_zero, List.take_zero, bU, bL]; exact hb, Gr.drewN (Gr.refl _ _) _⟩⟩
 case round =>
  obtain ⟨k, hk, rfl, rfl, hpc, hp⟩ := hrel;by_cases hlt : k < n
  ·have hol : (aC g (xs.take k) (ys.take k) c0).1.length = k := by
    rw [aP _ _ _ _ (by rw [List.length_take, List.length_take, LX.out, LY.out]), List.length_take, LX.out]; omega
   obtain ⟨bx, qx, rfl, hcx⟩ := sx.at_ hb hp hol hoff LX.out hlt;obtain ⟨by_, qy, rfl, hcy⟩ := sy.at_ hb hp hol hoff LY.out hlt;obtain rfl := hz (by omega);have hkx : k < xs.length := (by rw [LX.out]; exact hlt);have hky : k < ys.length := (by rw [LY.out]; exact hlt);have hst := fE g c0 hkx hky;have bx' : xs[k] < W64 := hx _ (List.getElem_mem _);have by' : ys[k] < W64 := hy _ (List.getElem_mem _);generalize xs[k] = x at *
   generalize ys[k] = y at *
   have HST := Lib.hid hst; clear hst;have HOL := Lib.hid hol; clear hol;have hcb := hp.blk;have hkc : off + k < (cs.take off ++ (aC g (xs.take k) (ys.take k) c0).1 ++ cs.drop (off + k)).length := by
    rw [aO HOL.out (by omega)]; omega
   have HP := Lib.hid hp; clear hp hcb;have HKC := Lib.hid hkc; clear hkc;have hgs := hg x y _ bx' by' hpc;generalize hcc : (aC g (xs.take k) (ys.take k) c0).2 = cc at *
   have HCC := Lib.hid hcc; clear hcc;go_wp2_with fail
   refine (HH.out x y cc _ bx' by' hpc HP.out.gr).mono ?_;rintro e w2 ⟨rfl, hq2⟩;have hb2 := HP.out.blk.q hq2;have hcell := hb2.cell HKC.out;have hfz := hb2.frozen (off + k);generalize (cs.take off ++ (aC g (xs.take k) (ys.take k) c0).1 ++ cs.drop (off + k))[off + k]'HKC.out = old at *
   go_wp2_with fail
   have hb3 := hb2.set_ (off + k) (g x y cc).1;rw [dS HOL.out (by omega)] at hb3;refine ⟨⟨k + 1, by omega, by go_num, ?_, ?_, ⟨?_, ?_⟩⟩, by simp [intOf]; omega⟩
   ·rw [HST.out]
   ·rw [HST.out]; exact hgs.2
   ·rw [HST.out]; exact hb3
   ·exact Gr.setCell (Gr.q HP.out.gr hq2) _ _
  ·obtain rfl : k = n := (by omega);go_wp2_with fail
   go_ret
   rw [List.take_of_length_le (by rw [LX.out]; omega), List.take_of_length_le (by rw [LY.out]; omega)] at *
   exact ⟨rfl, hp.blk, hp.gr⟩
set_option maxRecDepth 100000 in
theorem mX (Az Ax Ay : Option Addr) (nz cz nx cx n cy gz t off c0 : Nat) (xs ys cs : List Nat) (w : World) (g : Nat → Nat → Nat → Nat × Nat) (Pc : Nat → Prop) (hg : ∀ x y c, x < W64 → y < W64 → Pc c → (g x y c).1 < W64 ∧ Pc (g x y c).2) (hc0 : Pc c0)
  (H : ∀ (x y c : Nat) (w1 : World), x < W64 → y < W64 → Pc c → w.grownBy w1 (some gz) → Calls Tryz.prog 233 #[.int .u64 (x : Int), .int .u64 (y : Int), .int .u64 (c : Int)] w1 fun e w' => e = .returned (.tuple #[.int .u64 ((g x y c).1 : Int), .int .u64 ((g x y c).2 : Int)]) ∧ Q w1 w')
  (hb : Blk .u64 w gz t cs) (hoff : off + n ≤ cs.length) (hz : 0 < n → Az = some ⟨gz, off, none⟩) (hnz : n ≤ cz) (hnx : n ≤ cx) (hny : n ≤ cy) (hn : n ≤ 1099511627776) (lx : xs.length = n) (ly : ys.length = n) (sx : Src w gz off Ax xs) (sy : Src w gz off Ay ys) (hx : ∀ d ∈ xs, d < W64) (hy : ∀ d ∈ ys, d < W64) : Calls Tryz.prog 183 #[.slice Az nz cz, .slice Ax nx cx, .slice Ay n cy, .int .u64 (c0 : Int), .func (.func 233) #[] #[]] w
   fun e w' => e = .returned (.int .u64 ((aC g xs ys c0).2 : Int)) ∧ Blk .u64 w' gz t (cs.take off ++ (aC g xs ys c0).1 ++ cs.drop (off + n)) ∧ w.grownBy w' (some gz) := by
 have LX := Lib.hid lx; have LY := Lib.hid ly; clear lx ly;have HH := Lib.hid H; clear H;go_enter Tryz.func183, Tryz.ntmps183
 go_wp2_with fail
 go_quiet (fail)
 go_wp2_with fail
 go_loopw [3, 23] (fun cv iv w1 => ∃ k : Nat, k ≤ n ∧ iv = .int .i64 (k : Int) ∧ cv = .int .u64 ((aC g (xs.take k) (ys.take k) c0).2 : Int) ∧ Pc (aC g (xs.take k) (ys.take k) c0).2 ∧
     Part w w1 gz t off k cs (aC g (xs.take k) (ys.take k) c0).1) (fun _ iv _ => n - (intOf iv).toNat)
 case atStart => exact ⟨0, by omega, rfl, rfl, hc0, ⟨by rw [List.take_zero, List.take_zero, bU, bL]; exact hb, Gr.drewN (Gr.refl _ _) _⟩⟩
 case round =>
  obtain ⟨k, hk, rfl, rfl, hpc, hp⟩ := hrel;by_cases hlt : k < n
  ·have hol : (aC g (xs.take k) (ys.take k) c0).1.length = k := by
    rw [aP _ _ _ _ (by rw [List.length_take, List.length_take, LX.out, LY.out]), List.length_take, LX.out]; omega
   obtain ⟨bx, qx, rfl, hcx⟩ := sx.at_ hb hp hol hoff LX.out hlt;obtain ⟨by_, qy, rfl, hcy⟩ := sy.at_ hb hp hol hoff LY.out hlt;obtain rfl := hz (by omega);have hkx : k < xs.length := (by rw [LX.out]; exact hlt);have hky : k < ys.length := (by rw [LY.out]; exact hlt);have hst := fE g c0 hkx hky;have bx' : xs[k] < W64 := hx _ (List.getElem_mem _);have by' : ys[k] < W64 := hy _ (List.getElem_mem _);generalize xs[k] = x at *
   generalize ys[k] = y at *
   have HST := Lib.hid hst; clear hst;have HOL := Lib.hid hol; clear hol;have hcb := hp.blk;have hkc : off + k < (cs.take off ++ (aC g (xs.take k) (ys.take k) c0).1 ++ cs.drop (off + k)).length := by
    rw [aO HOL.out (by omega)]; omega
   have HP := Lib.hid hp; clear hp hcb;have HKC := Lib.hid hkc; clear hkc;have hgs := hg x y _ bx' by' hpc;generalize hcc : (aC g (xs.take k) (ys.take k) c0).2 = cc at *
   have HCC := Lib.hid hcc; clear hcc;go_wp2_with fail
   refine (HH.out x y cc _ bx' by' hpc HP.out.gr).mono ?_;rintro e w2 ⟨rfl, hq2⟩;have hb2 := HP.out.blk.q hq2;have hcell := hb2.cell HKC.out;have hfz := hb2.frozen (off + k);generalize (cs.take off ++ (aC g (xs.take k) (ys.take k) c0).1 ++ cs.drop (off + k))[off + k]'HKC.out = old at *
   go_wp2_with fail
   have hb3 := hb2.set_ (off + k) (g x y cc).1;rw [dS HOL.out (by omega)] at hb3;refine ⟨⟨k + 1, by omega, by go_num, ?_, ?_, ⟨?_, ?_⟩⟩, by simp [intOf]; omega⟩
   ·rw [HST.out]
   ·rw [HST.out]; exact hgs.2
   ·rw [HST.out]; exact hb3
   ·exact Gr.setCell (Gr.q HP.out.gr hq2) _ _
  ·obtain rfl : k = n := (by omega);go_wp2_with fail
   go_ret
   rw [List.take_of_length_le (by rw [LX.out]; omega), List.take_of_length_le (by rw [LY.out]; omega)] at *
   exact ⟨rfl, hp.blk, hp.gr⟩
set_option maxRecDepth 100000 in
theorem xB (Az Ax Ay : Option Addr) (nz cz nx cx n cy gz t off c0 : Nat) (xs ys cs : List Nat) (w : World) (p : Value) (g : Nat → Nat → Nat → Nat × Nat) (Pc : Nat → Prop) (hg : ∀ x y c, x < W64 → y < W64 → Pc c → (g x y c).1 < W64 ∧ Pc (g x y c).2) (hc0 : Pc c0)
  (H : ∀ (x y c : Nat) (w1 : World), x < W64 → y < W64 → Pc c → w.grownBy w1 (some gz) → Calls Tryz.prog 184 #[.int .u64 (x : Int), .int .u64 (y : Int), .int .u64 (c : Int), p] w1 fun e w' => e = .returned (.tuple #[.int .u64 ((g x y c).1 : Int), .int .u64 ((g x y c).2 : Int)]) ∧ Q w1 w')
  (hb : Blk .u64 w gz t cs) (hoff : off + n ≤ cs.length) (hz : 0 < n → Az = some ⟨gz, off, none⟩) (hnz : n ≤ cz) (hnx : n ≤ cx) (hny : n ≤ cy) (hn : n ≤ 1099511627776) (lx : xs.length = n) (ly : ys.length = n) (sx : Src w gz off Ax xs) (sy : Src w gz off Ay ys) (hx : ∀ d ∈ xs, d < W64) (hy : ∀ d ∈ ys, d < W64) : Calls Tryz.prog 183 #[.slice Az nz cz, .slice Ax nx cx, .slice Ay n cy, .int .u64 (c0 : Int), .func (.func 184) #[] #[p]] w
   fun e w' => e = .returned (.int .u64 ((aC g xs ys c0).2 : Int)) ∧ Blk .u64 w' gz t (cs.take off ++ (aC g xs ys c0).1 ++ cs.drop (off + n)) ∧ w.grownBy w' (some gz) := by
 have LX := Lib.hid lx; have LY := Lib.hid ly; clear lx ly;have HH := Lib.hid H; clear H;go_enter Tryz.func183, Tryz.ntmps183
 go_wp2_with fail
 go_quiet (fail)
 go_wp2_with fail
 go_loopw [3, 23] (fun cv iv w1 => ∃ k : Nat, k ≤ n ∧ iv = .int .i64 (k : Int) ∧ cv = .int .u64 ((aC g (xs.take k) (ys.take k) c0).2 : Int) ∧ Pc (aC g (xs.take k) (ys.take k) c0).2 ∧
     Part w w1 gz t off k cs (aC g (xs.take k) (ys.take k) c0).1) (fun _ iv _ => n - (intOf iv).toNat)
 case atStart => exact ⟨0, by omega, rfl, rfl, hc0, ⟨by rw [List.take_zero, List.take_zero, bU, bL]; exact hb, Gr.drewN (Gr.refl _ _) _⟩⟩
 case round =>
  obtain ⟨k, hk, rfl, rfl, hpc, hp⟩ := hrel;by_cases hlt : k < n
  ·have hol : (aC g (xs.take k) (ys.take k) c0).1.length = k := by
    rw [aP _ _ _ _ (by rw [List.length_take, List.length_take, LX.out, LY.out]), List.length_take, LX.out]; omega
   obtain ⟨bx, qx, rfl, hcx⟩ := sx.at_ hb hp hol hoff LX.out hlt;obtain ⟨by_, qy, rfl, hcy⟩ := sy.at_ hb hp hol hoff LY.out hlt;obtain rfl := hz (by omega);have hkx : k < xs.length := (by rw [LX.out]; exact hlt);have hky : k < ys.length := (by rw [LY.out]; exact hlt);have hst := fE g c0 hkx hky;have bx' : xs[k] < W64 := hx _ (List.getElem_mem _);have by' : ys[k] < W64 := hy _ (List.getElem_mem _);generalize xs[k] = x at *
   generalize ys[k] = y at *
   have HST := Lib.hid hst; clear hst;have HOL := Lib.hid hol; clear hol;have hcb := hp.blk;have hkc : off + k < (cs.take off ++ (aC g (xs.take k) (ys.take k) c0).1 ++ cs.drop (off + k)).length := by
    rw [aO HOL.out (by omega)]; omega
   have HP := Lib.hid hp; clear hp hcb;have HKC := Lib.hid hkc; clear hkc;have hgs := hg x y _ bx' by' hpc;generalize hcc : (aC g (xs.take k) (ys.take k) c0).2 = cc at *
   have HCC := Lib.hid hcc; clear hcc;go_wp2_with fail
   refine (HH.out x y cc _ bx' by' hpc HP.out.gr).mono ?_;rintro e w2 ⟨rfl, hq2⟩;have hb2 := HP.out.blk.q hq2;have hcell := hb2.cell HKC.out;have hfz := hb2.frozen (off + k);generalize (cs.take off ++ (aC g (xs.take k) (ys.take k) c0).1 ++ cs.drop (off + k))[off + k]'HKC.out = old at *
   go_wp2_with fail
   have hb3 := hb2.set_ (off + k) (g x y cc).1;rw [dS HOL.out (by omega)] at hb3;refine ⟨⟨k + 1, by omega, by go_num, ?_, ?_, ⟨?_, ?_⟩⟩, by simp [intOf]; omega⟩
   ·rw [HST.out]
   ·rw [HST.out]; exact hgs.2
   ·rw [HST.out]; exact hb3
   ·exact Gr.setCell (Gr.q HP.out.gr hq2) _ _
  ·obtain rfl : k = n := (by omega);go_wp2_with fail
   go_ret
   rw [List.take_of_length_le (by rw [LX.out]; omega), List.take_of_length_le (by rw [LY.out]; omega)] at *
   exact ⟨rfl, hp.blk, hp.gr⟩
set_option maxRecDepth 100000 in
theorem zA (Az Ax Ay : Option Addr) (nz cz nx cx n cy gz t off c0 : Nat) (xs ys cs : List Nat) (w : World) (p : Value) (g : Nat → Nat → Nat → Nat × Nat) (Pc : Nat → Prop) (hg : ∀ x y c, x < W64 → y < W64 → Pc c → (g x y c).1 < W64 ∧ Pc (g x y c).2) (hc0 : Pc c0)
  (H : ∀ (x y c : Nat) (w1 : World), x < W64 → y < W64 → Pc c → w.grownBy w1 (some gz) → Calls Tryz.prog 187 #[.int .u64 (x : Int), .int .u64 (y : Int), .int .u64 (c : Int), p] w1 fun e w' => e = .returned (.tuple #[.int .u64 ((g x y c).1 : Int), .int .u64 ((g x y c).2 : Int)]) ∧ Q w1 w')
  (hb : Blk .u64 w gz t cs) (hoff : off + n ≤ cs.length) (hz : 0 < n → Az = some ⟨gz, off, none⟩) (hnz : n ≤ cz) (hnx : n ≤ cx) (hny : n ≤ cy) (hn : n ≤ 1099511627776) (lx : xs.length = n) (ly : ys.length = n) (sx : Src w gz off Ax xs) (sy : Src w gz off Ay ys) (hx : ∀ d ∈ xs, d < W64) (hy : ∀ d ∈ ys, d < W64) : Calls Tryz.prog 183 #[.slice Az nz cz, .slice Ax nx cx, .slice Ay n cy, .int .u64 (c0 : Int), .func (.func 187) #[] #[p]] w
   fun e w' => e = .returned (.int .u64 ((aC g xs ys c0).2 : Int)) ∧ Blk .u64 w' gz t (cs.take off ++ (aC g xs ys c0).1 ++ cs.drop (off + n)) ∧ w.grownBy w' (some gz) := by
 have LX := Lib.hid lx; have LY := Lib.hid ly; clear lx ly;have HH := Lib.hid H; clear H;go_enter Tryz.func183, Tryz.ntmps183
 go_wp2_with fail
 go_quiet (fail)
 go_wp2_with fail
 go_loopw [3, 23] (fun cv iv w1 => ∃ k : Nat, k ≤ n ∧ iv = .int .i64 (k : Int) ∧ cv = .int .u64 ((aC g (xs.take k) (ys.take k) c0).2 : Int) ∧ Pc (aC g (xs.take k) (ys.take k) c0).2 ∧
     Part w w1 gz t off k cs (aC g (xs.take k) (ys.take k) c0).1) (fun _ iv _ => n - (intOf iv).toNat)
 case atStart => exact ⟨0, by omega, rfl, rfl, hc0, ⟨by rw [List.take_zero, List.take_zero, bU, bL]; exact hb, Gr.drewN (Gr.refl _ _) _⟩⟩
 case round =>
  obtain ⟨k, hk, rfl, rfl, hpc, hp⟩ := hrel;by_cases hlt : k < n
  ·have hol : (aC g (xs.take k) (ys.take k) c0).1.length = k := by
    rw [aP _ _ _ _ (by rw [List.length_take, List.length_take, LX.out, LY.out]), List.length_take, LX.out]; omega
   obtain ⟨bx, qx, rfl, hcx⟩ := sx.at_ hb hp hol hoff LX.out hlt;obtain ⟨by_, qy, rfl, hcy⟩ := sy.at_ hb hp hol hoff LY.out hlt;obtain rfl := hz (by omega);have hkx : k < xs.length := (by rw [LX.out]; exact hlt);have hky : k < ys.length := (by rw [LY.out]; exact hlt);have hst := fE g c0 hkx hky;have bx' : xs[k] < W64 := hx _ (List.getElem_mem _);have by' : ys[k] < W64 := hy _ (List.getElem_mem _);generalize xs[k] = x at *
   generalize ys[k] = y at *
   have HST := Lib.hid hst; clear hst;have HOL := Lib.hid hol; clear hol;have hcb := hp.blk;have hkc : off + k < (cs.take off ++ (aC g (xs.take k) (ys.take k) c0).1 ++ cs.drop (off + k)).length := by
    rw [aO HOL.out (by omega)]; omega
   have HP := Lib.hid hp; clear hp hcb;have HKC := Lib.hid hkc; clear hkc;have hgs := hg x y _ bx' by' hpc;generalize hcc : (aC g (xs.take k) (ys.take k) c0).2 = cc at *
   have HCC := Lib.hid hcc; clear hcc;go_wp2_with fail
   refine (HH.out x y cc _ bx' by' hpc HP.out.gr).mono ?_;rintro e w2 ⟨rfl, hq2⟩;have hb2 := HP.out.blk.q hq2;have hcell := hb2.cell HKC.out;have hfz := hb2.frozen (off + k);generalize (cs.take off ++ (aC g (xs.take k) (ys.take k) c0).1 ++ cs.drop (off + k))[off + k]'HKC.out = old at *
   go_wp2_with fail
   have hb3 := hb2.set_ (off + k) (g x y cc).1;rw [dS HOL.out (by omega)] at hb3;refine ⟨⟨k + 1, by omega, by go_num, ?_, ?_, ⟨?_, ?_⟩⟩, by simp [intOf]; omega⟩
   ·rw [HST.out]
   ·rw [HST.out]; exact hgs.2
   ·rw [HST.out]; exact hb3
   ·exact Gr.setCell (Gr.q HP.out.gr hq2) _ _
  ·obtain rfl : k = n := (by omega);go_wp2_with fail
   go_ret
   rw [List.take_of_length_le (by rw [LX.out]; omega), List.take_of_length_le (by rw [LY.out]; omega)] at *
   exact ⟨rfl, hp.blk, hp.gr⟩
set_option maxRecDepth 100000 in
theorem xC (Az Ax Ay : Option Addr) (nz cz nx cx n cy gz t off c0 : Nat) (xs ys cs : List Nat) (w : World) (p : Value) (g : Nat → Nat → Nat → Nat × Nat) (Pc : Nat → Prop) (hg : ∀ x y c, x < W64 → y < W64 → Pc c → (g x y c).1 < W64 ∧ Pc (g x y c).2) (hc0 : Pc c0)
  (H : ∀ (x y c : Nat) (w1 : World), x < W64 → y < W64 → Pc c → w.grownBy w1 (some gz) → Calls Tryz.prog 189 #[.int .u64 (x : Int), .int .u64 (y : Int), .int .u64 (c : Int), p] w1 fun e w' => e = .returned (.tuple #[.int .u64 ((g x y c).1 : Int), .int .u64 ((g x y c).2 : Int)]) ∧ Q w1 w')
  (hb : Blk .u64 w gz t cs) (hoff : off + n ≤ cs.length) (hz : 0 < n → Az = some ⟨gz, off, none⟩) (hnz : n ≤ cz) (hnx : n ≤ cx) (hny : n ≤ cy) (hn : n ≤ 1099511627776) (lx : xs.length = n) (ly : ys.length = n) (sx : Src w gz off Ax xs) (sy : Src w gz off Ay ys) (hx : ∀ d ∈ xs, d < W64) (hy : ∀ d ∈ ys, d < W64) : Calls Tryz.prog 183 #[.slice Az nz cz, .slice Ax nx cx, .slice Ay n cy, .int .u64 (c0 : Int), .func (.func 189) #[] #[p]] w
   fun e w' => e = .returned (.int .u64 ((aC g xs ys c0).2 : Int)) ∧ Blk .u64 w' gz t (cs.take off ++ (aC g xs ys c0).1 ++ cs.drop (off + n)) ∧ w.grownBy w' (some gz) := by
 have LX := Lib.hid lx; have LY := Lib.hid ly; clear lx ly;have HH := Lib.hid H; clear H;go_enter Tryz.func183, Tryz.ntmps183
 go_wp2_with fail
 go_quiet (fail)
 go_wp2_with fail
 go_loopw [3, 23] (fun cv iv w1 => ∃ k : Nat, k ≤ n ∧ iv = .int .i64 (k : Int) ∧ cv = .int .u64 ((aC g (xs.take k) (ys.take k) c0).2 : Int) ∧ Pc (aC g (xs.take k) (ys.take k) c0).2 ∧
     Part w w1 gz t off k cs (aC g (xs.take k) (ys.take k) c0).1) (fun _ iv _ => n - (intOf iv).toNat)
 case atStart => exact ⟨0, by omega, rfl, rfl, hc0, ⟨by rw [List.take_zero, List.take_zero, bU, bL]; exact hb, Gr.drewN (Gr.refl _ _) _⟩⟩
 case round =>
  obtain ⟨k, hk, rfl, rfl, hpc, hp⟩ := hrel;by_cases hlt : k < n
  ·have hol : (aC g (xs.take k) (ys.take k) c0).1.length = k := by
    rw [aP _ _ _ _ (by rw [List.length_take, List.length_take, LX.out, LY.out]), List.length_take, LX.out]; omega
   obtain ⟨bx, qx, rfl, hcx⟩ := sx.at_ hb hp hol hoff LX.out hlt;obtain ⟨by_, qy, rfl, hcy⟩ := sy.at_ hb hp hol hoff LY.out hlt;obtain rfl := hz (by omega);have hkx : k < xs.length := (by rw [LX.out]; exact hlt);have hky : k < ys.length := (by rw [LY.out]; exact hlt);have hst := fE g c0 hkx hky;have bx' : xs[k] < W64 := hx _ (List.getElem_mem _);have by' : ys[k] < W64 := hy _ (List.getElem_mem _);generalize xs[k] = x at *
   generalize ys[k] = y at *
   have HST := Lib.hid hst; clear hst;have HOL := Lib.hid hol; clear hol;have hcb := hp.blk;have hkc : off + k < (cs.take off ++ (aC g (xs.take k) (ys.take k) c0).1 ++ cs.drop (off + k)).length := by
    rw [aO HOL.out (by omega)]; omega
   have HP := Lib.hid hp; clear hp hcb;have HKC := Lib.hid hkc; clear hkc;have hgs := hg x y _ bx' by' hpc;generalize hcc : (aC g (xs.take k) (ys.take k) c0).2 = cc at *
   have HCC := Lib.hid hcc; clear hcc;go_wp2_with fail
   refine (HH.out x y cc _ bx' by' hpc HP.out.gr).mono ?_;rintro e w2 ⟨rfl, hq2⟩;have hb2 := HP.out.blk.q hq2;have hcell := hb2.cell HKC.out;have hfz := hb2.frozen (off + k);generalize (cs.take off ++ (aC g (xs.take k) (ys.take k) c0).1 ++ cs.drop (off + k))[off + k]'HKC.out = old at *
   go_wp2_with fail
   have hb3 := hb2.set_ (off + k) (g x y cc).1;rw [dS HOL.out (by omega)] at hb3;refine ⟨⟨k + 1, by omega, by go_num, ?_, ?_, ⟨?_, ?_⟩⟩, by simp [intOf]; omega⟩
   ·rw [HST.out]
   ·rw [HST.out]; exact hgs.2
   ·rw [HST.out]; exact hb3
   ·exact Gr.setCell (Gr.q HP.out.gr hq2) _ _
  ·obtain rfl : k = n := (by omega);go_wp2_with fail
   go_ret
   rw [List.take_of_length_le (by rw [LX.out]; omega), List.take_of_length_le (by rw [LY.out]; omega)] at *
   exact ⟨rfl, hp.blk, hp.gr⟩
set_option maxRecDepth 100000 in
theorem rW (Az Ax Ay : Option Addr) (nz cz nx cx n cy gz t off c0 : Nat) (xs ys cs : List Nat) (w : World) (p : Value) (g : Nat → Nat → Nat → Nat × Nat) (Pc : Nat → Prop) (hg : ∀ x y c, x < W64 → y < W64 → Pc c → (g x y c).1 < W64 ∧ Pc (g x y c).2) (hc0 : Pc c0)
  (H : ∀ (x y c : Nat) (w1 : World), x < W64 → y < W64 → Pc c → w.grownBy w1 (some gz) → Calls Tryz.prog 230 #[.int .u64 (x : Int), .int .u64 (y : Int), .int .u64 (c : Int), p] w1 fun e w' => e = .returned (.tuple #[.int .u64 ((g x y c).1 : Int), .int .u64 ((g x y c).2 : Int)]) ∧ Q w1 w')
  (hb : Blk .u64 w gz t cs) (hoff : off + n ≤ cs.length) (hz : 0 < n → Az = some ⟨gz, off, none⟩) (hnz : n ≤ cz) (hnx : n ≤ cx) (hny : n ≤ cy) (hn : n ≤ 1099511627776) (lx : xs.length = n) (ly : ys.length = n) (sx : Src w gz off Ax xs) (sy : Src w gz off Ay ys) (hx : ∀ d ∈ xs, d < W64) (hy : ∀ d ∈ ys, d < W64) : Calls Tryz.prog 183 #[.slice Az nz cz, .slice Ax nx cx, .slice Ay n cy, .int .u64 (c0 : Int), .func (.func 230) #[] #[p]] w
   fun e w' => e = .returned (.int .u64 ((aC g xs ys c0).2 : Int)) ∧ Blk .u64 w' gz t (cs.take off ++ (aC g xs ys c0).1 ++ cs.drop (off + n)) ∧ w.grownBy w' (some gz) := by
 have LX := Lib.hid lx; have LY := Lib.hid ly; clear lx ly;have HH := Lib.hid H; clear H;go_enter Tryz.func183, Tryz.ntmps183
 go_wp2_with fail
 go_quiet (fail)
 go_wp2_with fail
 go_loopw [3, 23] (fun cv iv w1 => ∃ k : Nat, k ≤ n ∧ iv = .int .i64 (k : Int) ∧ cv = .int .u64 ((aC g (xs.take k) (ys.take k) c0).2 : Int) ∧ Pc (aC g (xs.take k) (ys.take k) c0).2 ∧
     Part w w1 gz t off k cs (aC g (xs.take k) (ys.take k) c0).1) (fun _ iv _ => n - (intOf iv).toNat)
 case atStart => exact ⟨0, by omega, rfl, rfl, hc0, ⟨by rw [List.take_zero, List.take_zero, bU, bL]; exact hb, Gr.drewN (Gr.refl _ _) _⟩⟩
 case round =>
  obtain ⟨k, hk, rfl, rfl, hpc, hp⟩ := hrel;by_cases hlt : k < n
  ·have hol : (aC g (xs.take k) (ys.take k) c0).1.length = k := by
    rw [aP _ _ _ _ (by rw [List.length_take, List.length_take, LX.out, LY.out]), List.length_take, LX.out]; omega
   obtain ⟨bx, qx, rfl, hcx⟩ := sx.at_ hb hp hol hoff LX.out hlt;obtain ⟨by_, qy, rfl, hcy⟩ := sy.at_ hb hp hol hoff LY.out hlt;obtain rfl := hz (by omega);have hkx : k < xs.length := (by rw [LX.out]; exact hlt);have hky : k < ys.length := (by rw [LY.out]; exact hlt);have hst := fE g c0 hkx hky;have bx' : xs[k] < W64 := hx _ (List.getElem_mem _);have by' : ys[k] < W64 := hy _ (List.getElem_mem _);generalize xs[k] = x at *
   generalize ys[k] = y at *
   have HST := Lib.hid hst; clear hst;have HOL := Lib.hid hol; clear hol;have hcb := hp.blk;have hkc : off + k < (cs.take off ++ (aC g (xs.take k) (ys.take k) c0).1 ++ cs.drop (off + k)).length := by
    rw [aO HOL.out (by omega)]; omega
   have HP := Lib.hid hp; clear hp hcb;have HKC := Lib.hid hkc; clear hkc;have hgs := hg x y _ bx' by' hpc;generalize hcc : (aC g (xs.take k) (ys.take k) c0).2 = cc at *
   have HCC := Lib.hid hcc; clear hcc;go_wp2_with fail
   refine (HH.out x y cc _ bx' by' hpc HP.out.gr).mono ?_;rintro e w2 ⟨rfl, hq2⟩;have hb2 := HP.out.blk.q hq2;have hcell := hb2.cell HKC.out;have hfz := hb2.frozen (off + k);generalize (cs.take off ++ (aC g (xs.take k) (ys.take k) c0).1 ++ cs.drop (off + k))[off + k]'HKC.out = old at *
   go_wp2_with fail
   have hb3 := hb2.set_ (off + k) (g x y cc).1;rw [dS HOL.out (by omega)] at hb3;refine ⟨⟨k + 1, by omega, by go_num, ?_, ?_, ⟨?_, ?_⟩⟩, by simp [intOf]; omega⟩
   ·rw [HST.out]
   ·rw [HST.out]; exact hgs.2
   ·rw [HST.out]; exact hb3
   ·exact Gr.setCell (Gr.q HP.out.gr hq2) _ _
  ·obtain rfl : k = n := (by omega);go_wp2_with fail
   go_ret
   rw [List.take_of_length_le (by rw [LX.out]; omega), List.take_of_length_le (by rw [LY.out]; omega)] at *
   exact ⟨rfl, hp.blk, hp.gr⟩
set_option maxRecDepth 100000 in
theorem rX (Az Ax Ay : Option Addr) (nz cz nx cx n cy gz t off c0 : Nat) (xs ys cs : List Nat) (w : World) (p : Value) (g : Nat → Nat → Nat → Nat × Nat) (Pc : Nat → Prop) (hg : ∀ x y c, x < W64 → y < W64 → Pc c → (g x y c).1 < W64 ∧ Pc (g x y c).2) (hc0 : Pc c0)
  (H : ∀ (x y c : Nat) (w1 : World), x < W64 → y < W64 → Pc c → w.grownBy w1 (some gz) → Calls Tryz.prog 250 #[.int .u64 (x : Int), .int .u64 (y : Int), .int .u64 (c : Int), p] w1 fun e w' => e = .returned (.tuple #[.int .u64 ((g x y c).1 : Int), .int .u64 ((g x y c).2 : Int)]) ∧ Q w1 w')
  (hb : Blk .u64 w gz t cs) (hoff : off + n ≤ cs.length) (hz : 0 < n → Az = some ⟨gz, off, none⟩) (hnz : n ≤ cz) (hnx : n ≤ cx) (hny : n ≤ cy) (hn : n ≤ 1099511627776) (lx : xs.length = n) (ly : ys.length = n) (sx : Src w gz off Ax xs) (sy : Src w gz off Ay ys) (hx : ∀ d ∈ xs, d < W64) (hy : ∀ d ∈ ys, d < W64) : Calls Tryz.prog 183 #[.slice Az nz cz, .slice Ax nx cx, .slice Ay n cy, .int .u64 (c0 : Int), .func (.func 250) #[] #[p]] w
   fun e w' => e = .returned (.int .u64 ((aC g xs ys c0).2 : Int)) ∧ Blk .u64 w' gz t (cs.take off ++ (aC g xs ys c0).1 ++ cs.drop (off + n)) ∧ w.grownBy w' (some gz) := by
 have LX := Lib.hid lx; have LY := Lib.hid ly; clear lx ly;have HH := Lib.hid H; clear H;go_enter Tryz.func183, Tryz.ntmps183
 go_wp2_with fail
 go_quiet (fail)
 go_wp2_with fail
 go_loopw [3, 23] (fun cv iv w1 => ∃ k : Nat, k ≤ n ∧ iv = .int .i64 (k : Int) ∧ cv = .int .u64 ((aC g (xs.take k) (ys.take k) c0).2 : Int) ∧ Pc (aC g (xs.take k) (ys.take k) c0).2 ∧
     Part w w1 gz t off k cs (aC g (xs.take k) (ys.take k) c0).1) (fun _ iv _ => n - (intOf iv).toNat)
 case atStart => exact ⟨0, by omega, rfl, rfl, hc0, ⟨by rw [List.take_zero, List.take_zero, bU, bL]; exact hb, Gr.drewN (Gr.refl _ _) _⟩⟩
 case round =>
  obtain ⟨k, hk, rfl, rfl, hpc, hp⟩ := hrel;by_cases hlt : k < n
  ·have hol : (aC g (xs.take k) (ys.take k) c0).1.length = k := by
    rw [aP _ _ _ _ (by rw [List.length_take, List.length_take, LX.out, LY.out]), List.length_take, LX.out]; omega
   obtain ⟨bx, qx, rfl, hcx⟩ := sx.at_ hb hp hol hoff LX.out hlt;obtain ⟨by_, qy, rfl, hcy⟩ := sy.at_ hb hp hol hoff LY.out hlt;obtain rfl := hz (by omega);have hkx : k < xs.length := (by rw [LX.out]; exact hlt);have hky : k < ys.length := (by rw [LY.out]; exact hlt);have hst := fE g c0 hkx hky;have bx' : xs[k] < W64 := hx _ (List.getElem_mem _);have by' : ys[k] < W64 := hy _ (List.getElem_mem _);generalize xs[k] = x at *
   generalize ys[k] = y at *
   have HST := Lib.hid hst; clear hst;have HOL := Lib.hid hol; clear hol;have hcb := hp.blk;have hkc : off + k < (cs.take off ++ (aC g (xs.take k) (ys.take k) c0).1 ++ cs.drop (off + k)).length := by
    rw [aO HOL.out (by omega)]; omega
   have HP := Lib.hid hp; clear hp hcb;have HKC := Lib.hid hkc; clear hkc;have hgs := hg x y _ bx' by' hpc;generalize hcc : (aC g (xs.take k) (ys.take k) c0).2 = cc at *
   have HCC := Lib.hid hcc; clear hcc;go_wp2_with fail
   refine (HH.out x y cc _ bx' by' hpc HP.out.gr).mono ?_;rintro e w2 ⟨rfl, hq2⟩;have hb2 := HP.out.blk.q hq2;have hcell := hb2.cell HKC.out;have hfz := hb2.frozen (off + k);generalize (cs.take off ++ (aC g (xs.take k) (ys.take k) c0).1 ++ cs.drop (off + k))[off + k]'HKC.out = old at *
   go_wp2_with fail
   have hb3 := hb2.set_ (off + k) (g x y cc).1;rw [dS HOL.out (by omega)] at hb3;refine ⟨⟨k + 1, by omega, by go_num, ?_, ?_, ⟨?_, ?_⟩⟩, by simp [intOf]; omega⟩
   ·rw [HST.out]
   ·rw [HST.out]; exact hgs.2
   ·rw [HST.out]; exact hb3
   ·exact Gr.setCell (Gr.q HP.out.gr hq2) _ _
  ·obtain rfl : k = n := (by omega);go_wp2_with fail
   go_ret
   rw [List.take_of_length_le (by rw [LX.out]; omega), List.take_of_length_le (by rw [LY.out]; omega)] at *
   exact ⟨rfl, hp.blk, hp.gr⟩
set_option maxRecDepth 100000 in
theorem uO (Az Ax Ay : Option Addr) (nz cz nx cx n cy gz t off c0 : Nat) (xs ys cs : List Nat) (w : World) (p q : Value) (g : Nat → Nat → Nat → Nat × Nat) (Pc : Nat → Prop) (hg : ∀ x y c, x < W64 → y < W64 → Pc c → (g x y c).1 < W64 ∧ Pc (g x y c).2) (hc0 : Pc c0)
  (H : ∀ (x y c : Nat) (w1 : World), x < W64 → y < W64 → Pc c → w.grownBy w1 (some gz) → Calls Tryz.prog 239 #[.int .u64 (x : Int), .int .u64 (y : Int), .int .u64 (c : Int), p, q] w1 fun e w' => e = .returned (.tuple #[.int .u64 ((g x y c).1 : Int), .int .u64 ((g x y c).2 : Int)]) ∧ Q w1 w')
  (hb : Blk .u64 w gz t cs) (hoff : off + n ≤ cs.length) (hz : 0 < n → Az = some ⟨gz, off, none⟩) (hnz : n ≤ cz) (hnx : n ≤ cx) (hny : n ≤ cy) (hn : n ≤ 1099511627776) (lx : xs.length = n) (ly : ys.length = n) (sx : Src w gz off Ax xs) (sy : Src w gz off Ay ys) (hx : ∀ d ∈ xs, d < W64) (hy : ∀ d ∈ ys, d < W64) : Calls Tryz.prog 183 #[.slice Az nz cz, .slice Ax nx cx, .slice Ay n cy, .int .u64 (c0 : Int), .func (.func 239) #[] #[p, q]] w
   fun e w' => e = .returned (.int .u64 ((aC g xs ys c0).2 : Int)) ∧ Blk .u64 w' gz t (cs.take off ++ (aC g xs ys c0).1 ++ cs.drop (off + n)) ∧ w.grownBy w' (some gz) := by
 have LX := Lib.hid lx; have LY := Lib.hid ly; clear lx ly;have HH := Lib.hid H; clear H;go_enter Tryz.func183, Tryz.ntmps183
 go_wp2_with fail
 go_quiet (fail)
 go_wp2_with fail
 go_loopw [3, 23] (fun cv iv w1 => ∃ k : Nat, k ≤ n ∧ iv = .int .i64 (k : Int) ∧ cv = .int .u64 ((aC g (xs.take k) (ys.take k) c0).2 : Int) ∧ Pc (aC g (xs.take k) (ys.take k) c0).2 ∧
     Part w w1 gz t off k cs (aC g (xs.take k) (ys.take k) c0).1) (fun _ iv _ => n - (intOf iv).toNat)
 case atStart => exact ⟨0, by omega, rfl, rfl, hc0, ⟨by rw [List.take_zero, List.take_zero, bU, bL]; exact hb, Gr.drewN (Gr.refl _ _) _⟩⟩
 case round =>
  obtain ⟨k, hk, rfl, rfl, hpc, hp⟩ := hrel;by_cases hlt : k < n
  ·have hol : (aC g (xs.take k) (ys.take k) c0).1.length = k := by
    rw [aP _ _ _ _ (by rw [List.length_take, List.length_take, LX.out, LY.out]), List.length_take, LX.out]; omega
   obtain ⟨bx, qx, rfl, hcx⟩ := sx.at_ hb hp hol hoff LX.out hlt;obtain ⟨by_, qy, rfl, hcy⟩ := sy.at_ hb hp hol hoff LY.out hlt;obtain rfl := hz (by omega);have hkx : k < xs.length := (by rw [LX.out]; exact hlt);have hky : k < ys.length := (by rw [LY.out]; exact hlt);have hst := fE g c0 hkx hky;have bx' : xs[k] < W64 := hx _ (List.getElem_mem _);have by' : ys[k] < W64 := hy _ (List.getElem_mem _);generalize xs[k] = x at *
   generalize ys[k] = y at *
   have HST := Lib.hid hst; clear hst;have HOL := Lib.hid hol; clear hol;have hcb := hp.blk;have hkc : off + k < (cs.take off ++ (aC g (xs.take k) (ys.take k) c0).1 ++ cs.drop (off + k)).length := by
    rw [aO HOL.out (by omega)]; omega
   have HP := Lib.hid hp; clear hp hcb;have HKC := Lib.hid hkc; clear hkc;have hgs := hg x y _ bx' by' hpc;generalize hcc : (aC g (xs.take k) (ys.take k) c0).2 = cc at *
   have HCC := Lib.hid hcc; clear hcc;go_wp2_with fail
   refine (HH.out x y cc _ bx' by' hpc HP.out.gr).mono ?_;rintro e w2 ⟨rfl, hq2⟩;have hb2 := HP.out.blk.q hq2;have hcell := hb2.cell HKC.out;have hfz := hb2.frozen (off + k);generalize (cs.take off ++ (aC g (xs.take k) (ys.take k) c0).1 ++ cs.drop (off + k))[off + k]'HKC.out = old at *
   go_wp2_with fail
   have hb3 := hb2.set_ (off + k) (g x y cc).1;rw [dS HOL.out (by omega)] at hb3;refine ⟨⟨k + 1, by omega, by go_num, ?_, ?_, ⟨?_, ?_⟩⟩, by simp [intOf]; omega⟩
   ·rw [HST.out]
   ·rw [HST.out]; exact hgs.2
   ·rw [HST.out]; exact hb3
   ·exact Gr.setCell (Gr.q HP.out.gr hq2) _ _
  ·obtain rfl : k = n := (by omega);go_wp2_with fail
   go_ret
   rw [List.take_of_length_le (by rw [LX.out]; omega), List.take_of_length_le (by rw [LY.out]; omega)] at *
   exact ⟨rfl, hp.blk, hp.gr⟩
theorem tF (f : Nat) (hf : f < W64) (x y c : Nat) (hx : x < W64) (_ : y < W64) (hc : c < W64) : (iL f x y c).1 < W64 ∧ (iL f x y c).2 < W64 := by
 have h := xM hx hf hc rfl rfl rfl rfl;refine ⟨Nat.mod_lt _ (by decide), ?_⟩;have := h.2.2;rw [h.2.1] at this;exact this
theorem mF (f : Nat) (hf : f < W64) (x y c : Nat) (hx : x < W64) (hy : y < W64) (hc : c < W64) : (dV f x y c).1 < W64 ∧ (dV f x y c).2 < W64 := by
 have h := pM hx hy hf hc rfl rfl rfl rfl rfl rfl;refine ⟨Nat.mod_lt _ (by decide), ?_⟩;have h3 := h.2.2.1;rw [h.2.1] at h3;exact h3
theorem mG (f : Nat) (hf : f < W64) (x y c : Nat) (_ : x < W64) (hy : y < W64) (hc : c < W64) : (iO f x y c).1 < W64 ∧ (iO f x y c).2 < W64 := by
 have h := pO (x := x) hy hf hc rfl rfl rfl rfl rfl rfl;refine ⟨aDZ f x y c, ?_⟩;have h3 := h.2.2.1;rw [h.2.1] at h3;exact h3
set_option maxRecDepth 100000 in
theorem qG (Az Ax : Option Addr) (nz cz nx cx gz t off f c0 : Nat) (xs cs : List Nat) (w : World) (hb : Blk .u64 w gz t cs) (lx : xs.length = nx) (hoff : off + nx ≤ cs.length) (hz : 0 < nx → Az = some ⟨gz, off, none⟩) (hnz : nx ≤ cz) (hcx : nx ≤ cx) (hn : nx ≤ 1099511627776) (sx : Src w gz off Ax xs) (hx : ∀ d ∈ xs, d < W64) (hf : f < W64) (hc : c0 < W64) : Calls Tryz.prog 141 #[.slice Az nz cz, .slice Ax nx cx, .int .u64 (f : Int), .int .u64 (c0 : Int)] w
   fun e w' => ∃ (o : List Nat) (c : Nat), e = .returned (.int .u64 (c : Int)) ∧ c < W64 ∧ o.length = nx ∧ (∀ d ∈ o, d < W64) ∧ vl W64 o + W64 ^ nx * c = f * vl W64 xs + c0 ∧
    Blk .u64 w' gz t (cs.take off ++ o ++ cs.drop (off + nx)) ∧ w.grownBy w' (some gz) := by
 go_enter Tryz.func141, Tryz.ntmps141
 go_wp2_with fail
 have hbox : ∀ w1 : World, (w.alloc (.cells #[.int .u64 (f : Int)] 140)).grownBy w1 (some gz) → w1.cell? ⟨w.heap.size, 0, none⟩ = some (.int .u64 (f : Int)) := fun w1 hg => by
  rw [Gr.cell hg (p := ⟨w.heap.size, 0, none⟩) (by simp) (fun e => by have := hb.lt; simp only at e; omega)];exact cO _ _ _
 have sx1 : Src (w.alloc (.cells #[.int .u64 (f : Int)] 140)) gz off Ax xs := sx.q ((Q.refl _).alloc _)
 refine (xB Az Ax Ax nz cz nx cx nx cx gz t off c0 xs xs cs _ (.pointer (some ⟨w.heap.size, 0, none⟩)) (iL f) (· < W64) (tF f hf) hc
  (fun x y c w1 hx _ hc hg => aDn f x y c _ w1 hx hc hf (hbox w1 hg)) (hb.alloc _) hoff hz hnz hcx hcx hn lx lx sx1 sx1 hx hx).mono ?_
 rintro e w1 ⟨rfl, hb1, hg1⟩;have h1 := gV (b := W64) (P := (· < W64)) (tF f hf) (c := c0) rfl hx hx hc;have v1 := lJ (b := W64) (p := f) (q := 0) (P := (· < W64)) (tF f hf) (fun x y c _ _ _ => by
  unfold iL; rw [Nat.mod_add_div, Nat.mul_comm x]; omega) (c := c0) rfl hx hx hc
 have l1 := aP (iL f) xs xs c0 rfl;rw [lx] at l1 v1;generalize (aC (iL f) xs xs c0).1 = o1 at *
 generalize (aC (iL f) xs xs c0).2 = c1 at *
 have V1 := Lib.hid v1; have L1 := Lib.hid l1; clear v1 l1 lx;go_wp2_with fail
 go_ret
 exact ⟨o1, c1, rfl, h1.2, L1.out, h1.1, by rw [V1.out]; omega, hb1, Gr.trans (Gr.alloc (Gr.refl _ _) _) hg1⟩
set_option maxRecDepth 100000 in
theorem aAl (Az Ay : Option Addr) (nz cz ny cy gz t off f : Nat) (ys cs : List Nat) (w : World) (hb : Blk .u64 w gz t cs) (ly : ys.length = ny) (hoff : off + ny ≤ cs.length) (hz : 0 < ny → Az = some ⟨gz, off, none⟩) (hnz : ny ≤ cz) (hcy : ny ≤ cy) (hn : ny ≤ 1099511627776) (sy : Src w gz off Ay ys) (hy : ∀ d ∈ ys, d < W64) (hcs : ∀ d ∈ cs, d < W64) (hf : f < W64) : Calls Tryz.prog 210 #[.slice Az nz cz, .slice Ay ny cy, .int .u64 (f : Int)] w
   fun e w' => ∃ (o : List Nat) (c : Nat), e = .returned (.int .u64 (c : Int)) ∧ c < W64 ∧ o.length = ny ∧ (∀ d ∈ o, d < W64) ∧ vl W64 o + W64 ^ ny * c = vl W64 ((cs.drop off).take ny) + f * vl W64 ys ∧
    Blk .u64 w' gz t (cs.take off ++ o ++ cs.drop (off + ny)) ∧ w.grownBy w' (some gz) := by
 go_enter Tryz.func210, Tryz.ntmps210
 go_wp2_with fail
 have hbox : ∀ w1 : World, (w.alloc (.cells #[.int .u64 (f : Int)] 140)).grownBy w1 (some gz) → w1.cell? ⟨w.heap.size, 0, none⟩ = some (.int .u64 (f : Int)) := fun w1 hg => by
  rw [Gr.cell hg (p := ⟨w.heap.size, 0, none⟩) (by simp) (fun e => by have := hb.lt; simp only at e; omega)];exact cO _ _ _
 have hq1 : Q w (w.alloc (.cells #[.int .u64 (f : Int)] 140)) := (Q.refl _).alloc _;have lz : ((cs.drop off).take ny).length = ny := by rw [List.length_take, List.length_drop]; omega
 have hzd : ∀ d ∈ (cs.drop off).take ny, d < W64 := aI (fA hcs);have sz : Src (w.alloc (.cells #[.int .u64 (f : Int)] 140)) gz off Az ((cs.drop off).take ny) := by
  rcases Nat.eq_zero_or_pos ny with h0 | h0
  ·subst h0; rw [List.take_zero]; exact Src.nil
  ·rw [hz h0]; exact (Src.own (hb.q hq1))
 have sy1 := sy.q hq1
 refine (rW Az Az Ay nz cz nz cz ny cy gz t off 0 ((cs.drop off).take ny) ys cs _ (.pointer (some ⟨w.heap.size, 0, none⟩)) (dV f) (· < W64) (mF f hf) (by decide)
  (fun x y c w1 hx hy hc hg => yS f x y c _ w1 hx hy hc hf (hbox w1 hg)) (hb.alloc _) hoff hz hnz hnz hcy hn lz ly sz sy1 hzd hy).mono ?_
 rintro e w1 ⟨rfl, hb1, hg1⟩;have h1 := gV (b := W64) (P := (· < W64)) (mF f hf) (c := 0) (lz.trans ly.symm) hzd hy (by decide);have v1 := lJ (b := W64) (p := 1) (q := f) (P := (· < W64)) (mF f hf) (fun x y c _ _ _ => by
  unfold dV; rw [Nat.mod_add_div, Nat.mul_comm y]; omega) (c := 0) (lz.trans ly.symm) hzd hy (by decide)
 have l1 := aP (dV f) ((cs.drop off).take ny) ys 0 (lz.trans ly.symm);rw [lz] at l1 v1;generalize (aC (dV f) ((cs.drop off).take ny) ys 0).1 = o1 at *
 generalize (aC (dV f) ((cs.drop off).take ny) ys 0).2 = c1 at *
 have V1 := Lib.hid v1; have L1 := Lib.hid l1; clear v1 l1 lz ly;go_wp2_with fail
 go_ret
 exact ⟨o1, c1, rfl, h1.2, L1.out, h1.1, by rw [V1.out]; omega, hb1, Gr.trans (Gr.alloc (Gr.refl _ _) _) hg1⟩
set_option maxRecDepth 100000 in
theorem aAm (Az Ay : Option Addr) (nz cz ny cy gz t off f : Nat) (ys cs : List Nat) (w : World) (hb : Blk .u64 w gz t cs) (ly : ys.length = ny) (hoff : off + ny ≤ cs.length) (hz : 0 < ny → Az = some ⟨gz, off, none⟩) (hnz : ny ≤ cz) (hcy : ny ≤ cy) (hn : ny ≤ 1099511627776) (sy : Src w gz off Ay ys) (hy : ∀ d ∈ ys, d < W64) (hcs : ∀ d ∈ cs, d < W64) (hf : f < W64) : Calls Tryz.prog 246 #[.slice Az nz cz, .slice Ay ny cy, .int .u64 (f : Int)] w
   fun e w' => ∃ (o : List Nat) (c : Nat), e = .returned (.int .u64 (c : Int)) ∧ c < W64 ∧ o.length = ny ∧ (∀ d ∈ o, d < W64) ∧ vl W64 ((cs.drop off).take ny) + W64 ^ ny * c = vl W64 o + f * vl W64 ys ∧
    Blk .u64 w' gz t (cs.take off ++ o ++ cs.drop (off + ny)) ∧ w.grownBy w' (some gz) := by
 go_enter Tryz.func246, Tryz.ntmps246
 go_wp2_with fail
 have hbox : ∀ w1 : World, (w.alloc (.cells #[.int .u64 (f : Int)] 140)).grownBy w1 (some gz) → w1.cell? ⟨w.heap.size, 0, none⟩ = some (.int .u64 (f : Int)) := fun w1 hg => by
  rw [Gr.cell hg (p := ⟨w.heap.size, 0, none⟩) (by simp) (fun e => by have := hb.lt; simp only at e; omega)];exact cO _ _ _
 have hq1 : Q w (w.alloc (.cells #[.int .u64 (f : Int)] 140)) := (Q.refl _).alloc _;have lz : ((cs.drop off).take ny).length = ny := by rw [List.length_take, List.length_drop]; omega
 have hzd : ∀ d ∈ (cs.drop off).take ny, d < W64 := aI (fA hcs);have sz : Src (w.alloc (.cells #[.int .u64 (f : Int)] 140)) gz off Az ((cs.drop off).take ny) := by
  rcases Nat.eq_zero_or_pos ny with h0 | h0
  ·subst h0; rw [List.take_zero]; exact Src.nil
  ·rw [hz h0]; exact (Src.own (hb.q hq1))
 have sy1 := sy.q hq1
 refine (rX Az Az Ay nz cz nz cz ny cy gz t off 0 ((cs.drop off).take ny) ys cs _ (.pointer (some ⟨w.heap.size, 0, none⟩)) (iO f) (· < W64) (mG f hf) (by decide)
  (fun x y c w1 _ hy hc hg => yT f x y c _ w1 hy hc hf (hbox w1 hg)) (hb.alloc _) hoff hz hnz hnz hcy hn lz ly sz sy1 hzd hy).mono ?_
 rintro e w1 ⟨rfl, hb1, hg1⟩;have h1 := gV (b := W64) (P := (· < W64)) (mG f hf) (c := 0) (lz.trans ly.symm) hzd hy (by decide);have v1 := pQ (b := W64) (q := f) (P := (· < W64)) (mG f hf) (fun x y c hx _ _ => by
  have := aCS (f := f) (y := y) (c := c) hx;rw [Nat.mul_comm f]; exact this) (c := 0) (lz.trans ly.symm) hzd hy (by decide)
 have l1 := aP (iO f) ((cs.drop off).take ny) ys 0 (lz.trans ly.symm);rw [lz] at l1 v1;generalize (aC (iO f) ((cs.drop off).take ny) ys 0).1 = o1 at *
 generalize (aC (iO f) ((cs.drop off).take ny) ys 0).2 = c1 at *
 have V1 := Lib.hid v1; have L1 := Lib.hid l1; clear v1 l1 lz ly;go_wp2_with fail
 go_ret
 exact ⟨o1, c1, rfl, h1.2, L1.out, h1.1, V1.out, hb1, Gr.trans (Gr.alloc (Gr.refl _ _) _) hg1⟩
set_option maxRecDepth 100000 in
theorem mY (Az Ax Ay : Option Addr) (nz cz nx cx ny cy gz t off f g : Nat) (xs ys cs : List Nat) (w : World) (hb : Blk .u64 w gz t cs) (lx : xs.length = ny) (ly : ys.length = ny) (hnx : nx = ny) (hoff : off + ny ≤ cs.length) (hz : 0 < ny → Az = some ⟨gz, off, none⟩) (hnz : ny ≤ cz) (hcx : ny ≤ cx) (hcy : ny ≤ cy) (hn : ny ≤ 1099511627776) (sx : Src w gz off Ax xs) (sy : Src w gz off Ay ys) (hx : ∀ d ∈ xs, d < W64) (hy : ∀ d ∈ ys, d < W64) (hf : f < 9223372036854775808) (hg : g < 9223372036854775808) (hle : g * vl W64 ys ≤ f * vl W64 xs) (hlt : f * vl W64 xs - g * vl W64 ys < W64 ^ ny) : Calls Tryz.prog 220 #[.slice Az nz cz, .slice Ax nx cx, .slice Ay ny cy, .int .u64 (f : Int), .int .u64 (g : Int)] w
   fun e w' => ∃ (o : List Nat), e = .returned (.tuple #[]) ∧ o.length = ny ∧ (∀ d ∈ o, d < W64) ∧ vl W64 o = f * vl W64 xs - g * vl W64 ys ∧
    Blk .u64 w' gz t (cs.take off ++ o ++ cs.drop (off + ny)) ∧ w.grownBy w' (some gz) := by
 subst hnx;have hf6 : f < W64 := by rw [aU]; omega
 have hg6 : g < W64 := by rw [aU]; omega
 have LX := Lib.hid lx; have LY := Lib.hid ly; clear lx ly;go_enter Tryz.func220, Tryz.ntmps220
 go_wp2_with fail
 have hq2 : Q w ((w.alloc (.cells #[.int .u64 (f : Int)] 140)).alloc (.cells #[.int .u64 (g : Int)] 140)) := ((Q.refl _).alloc _).alloc _;have hbox : ∀ w1 : World, ((w.alloc (.cells #[.int .u64 (f : Int)] 140)).alloc (.cells #[.int .u64 (g : Int)] 140)).grownBy w1 (some gz) →
     w1.cell? ⟨w.heap.size, 0, none⟩ = some (.int .u64 (f : Int)) ∧ w1.cell? ⟨w.heap.size + 1, 0, none⟩ = some (.int .u64 (g : Int)) := fun w1 hg => by
  constructor
  ·rw [Gr.cell hg (p := ⟨w.heap.size, 0, none⟩) (by simp; omega) (fun e => by have := hb.lt; simp only at e; omega), World.cell?_alloc_lt _ _ _ (by simp)];exact cO _ _ _
  ·rw [Gr.cell hg (p := ⟨w.heap.size + 1, 0, none⟩) (by simp) (fun e => by have := hb.lt; simp only at e; omega)];have h := cO (w.alloc (.cells #[.int .u64 (f : Int)] 140)) (.int .u64 (g : Int)) 140;rw [show (w.alloc (.cells #[.int .u64 (f : Int)] 140)).heap.size = w.heap.size + 1 by simp] at h;exact h
 refine (uO Az Ax Ay nz cz nx cx nx cy gz t off 0 xs ys cs _ (.pointer (some ⟨w.heap.size, 0, none⟩)) (.pointer (some ⟨w.heap.size + 1, 0, none⟩)) (dK f g) (· < W64) (fun x y c _ _ _ => rA f g x y c) (by decide)
  (fun x y c w1 hx hy hc hgr => aBj f g x y c _ _ w1 hx hy hc hf6 hg6 (hbox w1 hgr).1 (hbox w1 hgr).2) (hb.q hq2) hoff hz hnz hcx hcy hn LX.out LY.out (sx.q hq2) (sy.q hq2) hx hy).mono ?_
 rintro e w1 ⟨rfl, hb1, hg1⟩;have hl := LX.out.trans LY.out.symm;have h1 := gV (b := W64) (P := (· < W64)) (g := dK f g) (fun x y c _ _ _ => rA f g x y c) (c := 0) hl hx hy (by decide);have v1 := wX hf hg hl hx hy hle (by rw [LX.out]; exact hlt);have l1 := aP (dK f g) xs ys 0 hl;rw [LX.out] at l1;generalize (aC (dK f g) xs ys 0).1 = o1 at *
 have V1 := Lib.hid v1; have L1 := Lib.hid l1; clear v1 l1;go_wp2_with fail
 go_end0
 exact ⟨o1, rfl, L1.out, h1.1, V1.out, hb1, Gr.trans (Gr.alloc (Gr.alloc (Gr.refl _ _) _) _) hg1⟩
end Go.Proofs.YtgpacgadpnpjjaaGreatDoor
