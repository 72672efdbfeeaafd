/- ValueIncludes (a part of the proof): results of numbers are in the results of their spans. No condition. -/
import Derived.Test.YtgpacgadpnpjjaaGreatDoorQn09
set_option maxHeartbeats 1000000
set_option maxRecDepth 100000
namespace Go.Proofs.YtgpacgadpnpjjaaGreatDoor
open Go.RowKit
open Ma Me
theorem mW (Az Ax Ay : Option Addr) (nz cz nx cx n cy gz t off c0 : Nat) (xs ys cs : List Nat) (w : World) (g : Nat → Nat → Nat → Nat × Nat) (Pc : Nat → Prop) (hg : ∀ x y c, x < W64 → y < W64 → Pc c → (g x y c).1 < W64 ∧ Pc (g x y c).2) (hc0 : Pc c0)
  (H : ∀ (x y c : Nat) (w1 : World), x < W64 → y < W64 → Pc c → w.grownBy w1 (some gz) → Calls Tryz.prog 231 #[.int .u64 (x : Int), .int .u64 (y : Int), .int .u64 (c : Int)] w1 fun e w' => e = .returned (.tuple #[.int .u64 ((g x y c).1 : Int), .int .u64 ((g x y c).2 : Int)]) ∧ Q w1 w')
  (hb : Blk .u64 w gz t cs) (hoff : off + n ≤ cs.length) (hz : 0 < n → Az = some ⟨gz, off, none⟩) (hnz : n ≤ cz) (hnx : n ≤ cx) (hny : n ≤ cy) (hn : n ≤ 1099511627776) (lx : xs.length = n) (ly : ys.length = n) (sx : Src w gz off Ax xs) (sy : Src w gz off Ay ys) (hx : ∀ d ∈ xs, d < W64) (hy : ∀ d ∈ ys, d < W64) : Calls Tryz.prog 183 #[.slice Az nz cz, .slice Ax nx cx, .slice Ay n cy, .int .u64 (c0 : Int), .func (.func 231) #[] #[]] w
   fun e w' => e = .returned (.int .u64 ((aC g xs ys c0).2 : Int)) ∧ Blk .u64 w' gz t (cs.take off ++ (aC g xs ys c0).1 ++ cs.drop (off + n)) ∧ w.grownBy w' (some gz) := by
 have LX := Lib.hid lx; have LY := Lib.hid ly; clear lx ly;have HH := Lib.hid H; clear H;go_enter Tryz.func183, Tryz.ntmps183
 go_wp2_with fail
 go_quiet (fail)
 go_wp2_with fail
 go_loopw [3, 23] (fun cv iv w1 => ∃ k : Nat, k ≤ n ∧ iv = .int .i64 (k : Int) ∧ cv = .int .u64 ((aC g (xs.take k) (ys.take k) c0).2 : Int) ∧ Pc (aC g (xs.take k) (ys.take k) c0).2 ∧
     Part w w1 gz t off k cs (aC g (xs.take k) (ys.take k) c0).1) (fun _ iv _ => n - (intOf iv).toNat)
 case atStart => exact ⟨0, by omega, rfl, rfl, hc0, ⟨by rw [List.take_zero, List.take_zero, bU, bL]; exact hb, Gr.drewN (Gr.refl _ _) _⟩⟩
 case round =>
  obtain ⟨k, hk, rfl, rfl, hpc, hp⟩ := hrel;by_cases hlt : k < n
  ·have hol : (aC g (xs.take k) (ys.take k) c0).1.length = k := by
    rw [aP _ _ _ _ (by rw [List.length_take, List.length_take, LX.out, LY.out]), List.length_take, LX.out]; omega
   obtain ⟨bx, qx, rfl, hcx⟩ := sx.at_ hb hp hol hoff LX.out hlt;obtain ⟨by_, qy, rfl, hcy⟩ := sy.at_ hb hp hol hoff LY.out hlt;obtain rfl := hz (by omega);have hkx : k < xs.length := (by rw [LX.out]; exact hlt);have hky : k < ys.length := (by rw [LY.out]; exact hlt);have hst := fE g c0 hkx hky;have bx' : xs[k] < W64 := hx _ (List.getElem_mem _);have by' : ys[k] < W64 := hy _ (List.getElem_mem _);generalize xs[k] = x at *
   generalize ys[k] = y at *
   have HST := Lib.hid hst; clear hst;have HOL := Lib.hid hol; clear hol;have hcb := hp.blk;have hkc : off + k < (cs.take off ++ (aC g (xs.take k) (ys.take k) c0).1 ++ cs.drop (off + k)).length := by
    rw [aO HOL.out (by omega)]; omega
   have HP := Lib.hid hp; clear hp hcb;have HKC := Lib.hid hkc; clear hkc;have hgs := hg x y _ bx' by' hpc;generalize hcc : (aC g (xs.take k) (ys.take k) c0).2 = cc at *
   have HCC := Lib.hid hcc; clear hcc;go_wp2_with fail
   refine (HH.out x y cc _ bx' by' hpc HP.out.gr).mono ?_;rintro e w2 ⟨rfl, hq2⟩;have hb2 := HP.out.blk.q hq2;have hcell := hb2.cell HKC.out;have hfz := hb2.frozen (off + k);generalize (cs.take off ++ (aC g (xs.take k) (ys.take k) c0).1 ++ cs.drop (off + k))[off + k]'HKC.out = old at *
   go_wp2_with fail
   have hb3 := hb2.set_ (off + k) (g x y cc).1;rw [dS HOL.out (by omega)] at hb3;refine ⟨⟨k + 1, by omega, by go_num, ?_, ?_, ⟨?_, ?_⟩⟩, by simp [intOf]; omega⟩
   ·rw [HST.out]
   ·rw [HST.out]; exact hgs.2
   ·rw [HST.out]; exact hb3
   ·exact Gr.setCell (Gr.q HP.out.gr hq2) _ _
  ·obtain rfl : k = n := (by omega);go_wp2_with fail
   go_ret
   rw [List.take_of_length_le (by rw [LX.out]; omega), List.take_of_length_le (by rw [LY.out]; omega)] at *
   exact ⟨rfl, hp.blk, hp.gr⟩
theorem mX (Az Ax Ay : Option Addr) (nz cz nx cx n cy gz t off c0 : Nat) (xs ys cs : List Nat) (w : World) (g : Nat → Nat → Nat → Nat × Nat) (Pc : Nat → Prop) (hg : ∀ x y c, x < W64 → y < W64 → Pc c → (g x y c).1 < W64 ∧ Pc (g x y c).2) (hc0 : Pc c0)
  (H : ∀ (x y c : Nat) (w1 : World), x < W64 → y < W64 → Pc c → w.grownBy w1 (some gz) → Calls Tryz.prog 233 #[.int .u64 (x : Int), .int .u64 (y : Int), .int .u64 (c : Int)] w1 fun e w' => e = .returned (.tuple #[.int .u64 ((g x y c).1 : Int), .int .u64 ((g x y c).2 : Int)]) ∧ Q w1 w')
  (hb : Blk .u64 w gz t cs) (hoff : off + n ≤ cs.length) (hz : 0 < n → Az = some ⟨gz, off, none⟩) (hnz : n ≤ cz) (hnx : n ≤ cx) (hny : n ≤ cy) (hn : n ≤ 1099511627776) (lx : xs.length = n) (ly : ys.length = n) (sx : Src w gz off Ax xs) (sy : Src w gz off Ay ys) (hx : ∀ d ∈ xs, d < W64) (hy : ∀ d ∈ ys, d < W64) : Calls Tryz.prog 183 #[.slice Az nz cz, .slice Ax nx cx, .slice Ay n cy, .int .u64 (c0 : Int), .func (.func 233) #[] #[]] w
   fun e w' => e = .returned (.int .u64 ((aC g xs ys c0).2 : Int)) ∧ Blk .u64 w' gz t (cs.take off ++ (aC g xs ys c0).1 ++ cs.drop (off + n)) ∧ w.grownBy w' (some gz) := by
 have LX := Lib.hid lx; have LY := Lib.hid ly; clear lx ly;have HH := Lib.hid H; clear H;go_enter Tryz.func183, Tryz.ntmps183
 go_wp2_with fail
 go_quiet (fail)
 go_wp2_with fail
 go_loopw [3, 23] (fun cv iv w1 => ∃ k : Nat, k ≤ n ∧ iv = .int .i64 (k : Int) ∧ cv = .int .u64 ((aC g (xs.take k) (ys.take k) c0).2 : Int) ∧ Pc (aC g (xs.take k) (ys.take k) c0).2 ∧
     Part w w1 gz t off k cs (aC g (xs.take k) (ys.take k) c0).1) (fun _ iv _ => n - (intOf iv).toNat)
 case atStart => exact ⟨0, by omega, rfl, rfl, hc0, ⟨by rw [List.take_zero, List.take_zero, bU, bL]; exact hb, Gr.drewN (Gr.refl _ _) _⟩⟩
 case round =>
  obtain ⟨k, hk, rfl, rfl, hpc, hp⟩ := hrel;by_cases hlt : k < n
  ·have hol : (aC g (xs.take k) (ys.take k) c0).1.length = k := by
    rw [aP _ _ _ _ (by rw [List.length_take, List.length_take, LX.out, LY.out]), List.length_take, LX.out]; omega
   obtain ⟨bx, qx, rfl, hcx⟩ := sx.at_ hb hp hol hoff LX.out hlt;obtain ⟨by_, qy, rfl, hcy⟩ := sy.at_ hb hp hol hoff LY.out hlt;obtain rfl := hz (by omega);have hkx : k < xs.length := (by rw [LX.out]; exact hlt);have hky : k < ys.length := (by rw [LY.out]; exact hlt);have hst := fE g c0 hkx hky;have bx' : xs[k] < W64 := hx _ (List.getElem_mem _);have by' : ys[k] < W64 := hy _ (List.getElem_mem _);generalize xs[k] = x at *
   generalize ys[k] = y at *
   have HST := Lib.hid hst; clear hst;have HOL := Lib.hid hol; clear hol;have hcb := hp.blk;have hkc : off + k < (cs.take off ++ (aC g (xs.take k) (ys.take k) c0).1 ++ cs.drop (off + k)).length := by
    rw [aO HOL.out (by omega)]; omega
   have HP := Lib.hid hp; clear hp hcb;have HKC := Lib.hid hkc; clear hkc;have hgs := hg x y _ bx' by' hpc;generalize hcc : (aC g (xs.take k) (ys.take k) c0).2 = cc at *
   have HCC := Lib.hid hcc; clear hcc;go_wp2_with fail
   refine (HH.out x y cc _ bx' by' hpc HP.out.gr).mono ?_;rintro e w2 ⟨rfl, hq2⟩;have hb2 := HP.out.blk.q hq2;have hcell := hb2.cell HKC.out;have hfz := hb2.frozen (off + k);generalize (cs.take off ++ (aC g (xs.take k) (ys.take k) c0).1 ++ cs.drop (off + k))[off + k]'HKC.out = old at *
   go_wp2_with fail
   have hb3 := hb2.set_ (off + k) (g x y cc).1;rw [dS HOL.out (by omega)] at hb3;refine ⟨⟨k + 1, by omega, by go_num, ?_, ?_, ⟨?_, ?_⟩⟩, by simp [intOf]; omega⟩
   ·rw [HST.out]
   ·rw [HST.out]; exact hgs.2
   ·rw [HST.out]; exact hb3
   ·exact Gr.setCell (Gr.q HP.out.gr hq2) _ _
  ·obtain rfl : k = n := (by omega);go_wp2_with fail
   go_ret
   rw [List.take_of_length_le (by rw [LX.out]; omega), List.take_of_length_le (by rw [LY.out]; omega)] at *
   exact ⟨rfl, hp.blk, hp.gr⟩
theorem xB (Az Ax Ay : Option Addr) (nz cz nx cx n cy gz t off c0 : Nat) (xs ys cs : List Nat) (w : World) (p : Value) (g : Nat → Nat → Nat → Nat × Nat) (Pc : Nat → Prop) (hg : ∀ x y c, x < W64 → y < W64 → Pc c → (g x y c).1 < W64 ∧ Pc (g x y c).2) (hc0 : Pc c0)
  (H : ∀ (x y c : Nat) (w1 : World), x < W64 → y < W64 → Pc c → w.grownBy w1 (some gz) → Calls Tryz.prog 184 #[.int .u64 (x : Int), .int .u64 (y : Int), .int .u64 (c : Int), p] w1 fun e w' => e = .returned (.tuple #[.int .u64 ((g x y c).1 : Int), .int .u64 ((g x y c).2 : Int)]) ∧ Q w1 w')
  (hb : Blk .u64 w gz t cs) (hoff : off + n ≤ cs.length) (hz : 0 < n → Az = some ⟨gz, off, none⟩) (hnz : n ≤ cz) (hnx : n ≤ cx) (hny : n ≤ cy) (hn : n ≤ 1099511627776) (lx : xs.length = n) (ly : ys.length = n) (sx : Src w gz off Ax xs) (sy : Src w gz off Ay ys) (hx : ∀ d ∈ xs, d < W64) (hy : ∀ d ∈ ys, d < W64) : Calls Tryz.prog 183 #[.slice Az nz cz, .slice Ax nx cx, .slice Ay n cy, .int .u64 (c0 : Int), .func (.func 184) #[] #[p]] w
   fun e w' => e = .returned (.int .u64 ((aC g xs ys c0).2 : Int)) ∧ Blk .u64 w' gz t (cs.take off ++ (aC g xs ys c0).1 ++ cs.drop (off + n)) ∧ w.grownBy w' (some gz) := by
 have LX := Lib.hid lx; have LY := Lib.hid ly; clear lx ly;have HH := Lib.hid H; clear H;go_enter Tryz.func183, Tryz.ntmps183
 go_wp2_with fail
 go_quiet (fail)
 go_wp2_with fail
 go_loopw [3, 23] (fun cv iv w1 => ∃ k : Nat, k ≤ n ∧ iv = .int .i64 (k : Int) ∧ cv = .int .u64 ((aC g (xs.take k) (ys.take k) c0).2 : Int) ∧ Pc (aC g (xs.take k) (ys.take k) c0).2 ∧
     Part w w1 gz t off k cs (aC g (xs.take k) (ys.take k) c0).1) (fun _ iv _ => n - (intOf iv).toNat)
 case atStart => exact ⟨0, by omega, rfl, rfl, hc0, ⟨by rw [List.take_zero, List.take_zero, bU, bL]; exact hb, Gr.drewN (Gr.refl _ _) _⟩⟩
 case round =>
  obtain ⟨k, hk, rfl, rfl, hpc, hp⟩ := hrel;by_cases hlt : k < n
  ·have hol : (aC g (xs.take k) (ys.take k) c0).1.length = k := by
    rw [aP _ _ _ _ (by rw [List.length_take, List.length_take, LX.out, LY.out]), List.length_take, LX.out]; omega
   obtain ⟨bx, qx, rfl, hcx⟩ := sx.at_ hb hp hol hoff LX.out hlt;obtain ⟨by_, qy, rfl, hcy⟩ := sy.at_ hb hp hol hoff LY.out hlt;obtain rfl := hz (by omega);have hkx : k < xs.length := (by rw [LX.out]; exact hlt);have hky : k < ys.length := (by rw [LY.out]; exact hlt);have hst := fE g c0 hkx hky;have bx' : xs[k] < W64 := hx _ (List.getElem_mem _);have by' : ys[k] < W64 := hy _ (List.getElem_mem _);generalize xs[k] = x at *
   generalize ys[k] = y at *
   have HST := Lib.hid hst; clear hst;have HOL := Lib.hid hol; clear hol;have hcb := hp.blk;have hkc : off + k < (cs.take off ++ (aC g (xs.take k) (ys.take k) c0).1 ++ cs.drop (off + k)).length := by
    rw [aO HOL.out (by omega)]; omega
   have HP := Lib.hid hp; clear hp hcb;have HKC := Lib.hid hkc; clear hkc;have hgs := hg x y _ bx' by' hpc;generalize hcc : (aC g (xs.take k) (ys.take k) c0).2 = cc at *
   have HCC := Lib.hid hcc; clear hcc;go_wp2_with fail
   refine (HH.out x y cc _ bx' by' hpc HP.out.gr).mono ?_;rintro e w2 ⟨rfl, hq2⟩;have hb2 := HP.out.blk.q hq2;have hcell := hb2.cell HKC.out;have hfz := hb2.frozen (off + k);generalize (cs.take off ++ (aC g (xs.take k) (ys.take k) c0).1 ++ cs.drop (off + k))[off + k]'HKC.out = old at *
   go_wp2_with fail
   have hb3 := hb2.set_ (off + k) (g x y cc).1;rw [dS HOL.out (by omega)] at hb3;refine ⟨⟨k + 1, by omega, by go_num, ?_, ?_, ⟨?_, ?_⟩⟩, by simp [intOf]; omega⟩
   ·rw [HST.out]
   ·rw [HST.out]; exact hgs.2
   ·rw [HST.out]; exact hb3
   ·exact Gr.setCell (Gr.q HP.out.gr hq2) _ _
  ·obtain rfl : k = n := (by omega);go_wp2_with fail
   go_ret
   rw [List.take_of_length_le (by rw [LX.out]; omega), List.take_of_length_le (by rw [LY.out]; omega)] at *
   exact ⟨rfl, hp.blk, hp.gr⟩
theorem zA (Az Ax Ay : Option Addr) (nz cz nx cx n cy gz t off c0 : Nat) (xs ys cs : List Nat) (w : World) (p : Value) (g : Nat → Nat → Nat → Nat × Nat) (Pc : Nat → Prop) (hg : ∀ x y c, x < W64 → y < W64 → Pc c → (g x y c).1 < W64 ∧ Pc (g x y c).2) (hc0 : Pc c0)
  (H : ∀ (x y c : Nat) (w1 : World), x < W64 → y < W64 → Pc c → w.grownBy w1 (some gz) → Calls Tryz.prog 187 #[.int .u64 (x : Int), .int .u64 (y : Int), .int .u64 (c : Int), p] w1 fun e w' => e = .returned (.tuple #[.int .u64 ((g x y c).1 : Int), .int .u64 ((g x y c).2 : Int)]) ∧ Q w1 w')
  (hb : Blk .u64 w gz t cs) (hoff : off + n ≤ cs.length) (hz : 0 < n → Az = some ⟨gz, off, none⟩) (hnz : n ≤ cz) (hnx : n ≤ cx) (hny : n ≤ cy) (hn : n ≤ 1099511627776) (lx : xs.length = n) (ly : ys.length = n) (sx : Src w gz off Ax xs) (sy : Src w gz off Ay ys) (hx : ∀ d ∈ xs, d < W64) (hy : ∀ d ∈ ys, d < W64) : Calls Tryz.prog 183 #[.slice Az nz cz, .slice Ax nx cx, .slice Ay n cy, .int .u64 (c0 : Int), .func (.func 187) #[] #[p]] w
   fun e w' => e = .returned (.int .u64 ((aC g xs ys c0).2 : Int)) ∧ Blk .u64 w' gz t (cs.take off ++ (aC g xs ys c0).1 ++ cs.drop (off + n)) ∧ w.grownBy w' (some gz) := by
 have LX := Lib.hid lx; have LY := Lib.hid ly; clear lx ly;have HH := Lib.hid H; clear H;go_enter Tryz.func183, Tryz.ntmps183
 go_wp2_with fail
 go_quiet (fail)
 go_wp2_with fail
 go_loopw [3, 23] (fun cv iv w1 => ∃ k : Nat, k ≤ n ∧ iv = .int .i64 (k : Int) ∧ cv = .int .u64 ((aC g (xs.take k) (ys.take k) c0).2 : Int) ∧ Pc (aC g (xs.take k) (ys.take k) c0).2 ∧
     Part w w1 gz t off k cs (aC g (xs.take k) (ys.take k) c0).1) (fun _ iv _ => n - (intOf iv).toNat)
 case atStart => exact ⟨0, by omega, rfl, rfl, hc0, ⟨by rw [List.take_zero, List.take_zero, bU, bL]; exact hb, Gr.drewN (Gr.refl _ _) _⟩⟩
 case round =>
  obtain ⟨k, hk, rfl, rfl, hpc, hp⟩ := hrel;by_cases hlt : k < n
  ·have hol : (aC g (xs.take k) (ys.take k) c0).1.length = k := by
    rw [aP _ _ _ _ (by rw [List.length_take, List.length_take, LX.out, LY.out]), List.length_take, LX.out]; omega
   obtain ⟨bx, qx, rfl, hcx⟩ := sx.at_ hb hp hol hoff LX.out hlt;obtain ⟨by_, qy, rfl, hcy⟩ := sy.at_ hb hp hol hoff LY.out hlt;obtain rfl := hz (by omega);have hkx : k < xs.length := (by rw [LX.out]; exact hlt);have hky : k < ys.length := (by rw [LY.out]; exact hlt);have hst := fE g c0 hkx hky;have bx' : xs[k] < W64 := hx _ (List.getElem_mem _);have by' : ys[k] < W64 := hy _ (List.getElem_mem _);generalize xs[k] = x at *
   generalize ys[k] = y at *
   have HST := Lib.hid hst; clear hst;have HOL := Lib.hid hol; clear hol;have hcb := hp.blk;have hkc : off + k < (cs.take off ++ (aC g (xs.take k) (ys.take k) c0).1 ++ cs.drop (off + k)).length := by
    rw [aO HOL.out (by omega)]; omega
   have HP := Lib.hid hp; clear hp hcb;have HKC := Lib.hid hkc; clear hkc;have hgs := hg x y _ bx' by' hpc;generalize hcc : (aC g (xs.take k) (ys.take k) c0).2 = cc at *
   have HCC := Lib.hid hcc; clear hcc;go_wp2_with fail
   refine (HH.out x y cc _ bx' by' hpc HP.out.gr).mono ?_;rintro e w2 ⟨rfl, hq2⟩;have hb2 := HP.out.blk.q hq2;have hcell := hb2.cell HKC.out;have hfz := hb2.frozen (off + k);generalize (cs.take off ++ (aC g (xs.take k) (ys.take k) c0).1 ++ cs.drop (off + k))[off + k]'HKC.out = old at *
   go_wp2_with fail
   have hb3 := hb2.set_ (off + k) (g x y cc).1;rw [dS HOL.out (by omega)] at hb3;refine ⟨⟨k + 1, by omega, by go_num, ?_, ?_, ⟨?_, ?_⟩⟩, by simp [intOf]; omega⟩
   ·rw [HST.out]
   ·rw [HST.out]; exact hgs.2
   ·rw [HST.out]; exact hb3
   ·exact Gr.setCell (Gr.q HP.out.gr hq2) _ _
  ·obtain rfl : k = n := (by omega);go_wp2_with fail
   go_ret
   rw [List.take_of_length_le (by rw [LX.out]; omega), List.take_of_length_le (by rw [LY.out]; omega)] at *
   exact ⟨rfl, hp.blk, hp.gr⟩
theorem xC (Az Ax Ay : Option Addr) (nz cz nx cx n cy gz t off c0 : Nat) (xs ys cs : List Nat) (w : World) (p : Value) (g : Nat → Nat → Nat → Nat × Nat) (Pc : Nat → Prop) (hg : ∀ x y c, x < W64 → y < W64 → Pc c → (g x y c).1 < W64 ∧ Pc (g x y c).2) (hc0 : Pc c0)
  (H : ∀ (x y c : Nat) (w1 : World), x < W64 → y < W64 → Pc c → w.grownBy w1 (some gz) → Calls Tryz.prog 189 #[.int .u64 (x : Int), .int .u64 (y : Int), .int .u64 (c : Int), p] w1 fun e w' => e = .returned (.tuple #[.int .u64 ((g x y c).1 : Int), .int .u64 ((g x y c).2 : Int)]) ∧ Q w1 w')
  (hb : Blk .u64 w gz t cs) (hoff : off + n ≤ cs.length) (hz : 0 < n → Az = some ⟨gz, off, none⟩) (hnz : n ≤ cz) (hnx : n ≤ cx) (hny : n ≤ cy) (hn : n ≤ 1099511627776) (lx : xs.length = n) (ly : ys.length = n) (sx : Src w gz off Ax xs) (sy : Src w gz off Ay ys) (hx : ∀ d ∈ xs, d < W64) (hy : ∀ d ∈ ys, d < W64) : Calls Tryz.prog 183 #[.slice Az nz cz, .slice Ax nx cx, .slice Ay n cy, .int .u64 (c0 : Int), .func (.func 189) #[] #[p]] w
   fun e w' => e = .returned (.int .u64 ((aC g xs ys c0).2 : Int)) ∧ Blk .u64 w' gz t (cs.take off ++ (aC g xs ys c0).1 ++ cs.drop (off + n)) ∧ w.grownBy w' (some gz) := by
 have LX := Lib.hid lx; have LY := Lib.hid ly; clear lx ly;have HH := Lib.hid H; clear H;go_enter Tryz.func183, Tryz.ntmps183
 go_wp2_with fail
 go_quiet (fail)
 go_wp2_with fail
 go_loopw [3, 23] (fun cv iv w1 => ∃ k : Nat, k ≤ n ∧ iv = .int .i64 (k : Int) ∧ cv = .int .u64 ((aC g (xs.take k) (ys.take k) c0).2 : Int) ∧ Pc (aC g (xs.take k) (ys.take k) c0).2 ∧
     Part w w1 gz t off k cs (aC g (xs.take k) (ys.take k) c0).1) (fun _ iv _ => n - (intOf iv).toNat)
 case atStart => exact ⟨0, by omega, rfl, rfl, hc0, ⟨by rw [List.take_zero, List.take_zero, bU, bL]; exact hb, Gr.drewN (Gr.refl _ _) _⟩⟩
 case round =>
  obtain ⟨k, hk, rfl, rfl, hpc, hp⟩ := hrel;by_cases hlt : k < n
  ·have hol : (aC g (xs.take k) (ys.take k) c0).1.length = k := by
    rw [aP _ _ _ _ (by rw [List.length_take, List.length_take, LX.out, LY.out]), List.length_take, LX.out]; omega
   obtain ⟨bx, qx, rfl, hcx⟩ := sx.at_ hb hp hol hoff LX.out hlt;obtain ⟨by_, qy, rfl, hcy⟩ := sy.at_ hb hp hol hoff LY.out hlt;obtain rfl := hz (by omega);have hkx : k < xs.length := (by rw [LX.out]; exact hlt);have hky : k < ys.length := (by rw [LY.out]; exact hlt);have hst := fE g c0 hkx hky;have bx' : xs[k] < W64 := hx _ (List.getElem_mem _);have by' : ys[k] < W64 := hy _ (List.getElem_mem _);generalize xs[k] = x at *
   generalize ys[k] = y at *
   have HST := Lib.hid hst; clear hst;have HOL := Lib.hid hol; clear hol;have hcb := hp.blk;have hkc : off + k < (cs.take off ++ (aC g (xs.take k) (ys.take k) c0).1 ++ cs.drop (off + k)).length := by
    rw [aO HOL.out (by omega)]; omega
   have HP := Lib.hid hp; clear hp hcb;have HKC := Lib.hid hkc; clear hkc;have hgs := hg x y _ bx' by' hpc;generalize hcc : (aC g (xs.take k) (ys.take k) c0).2 = cc at *
   have HCC := Lib.hid hcc; clear hcc;go_wp2_with fail
   refine (HH.out x y cc _ bx' by' hpc HP.out.gr).mono ?_;rintro e w2 ⟨rfl, hq2⟩;have hb2 := HP.out.blk.q hq2;have hcell := hb2.cell HKC.out;have hfz := hb2.frozen (off + k);generalize (cs.take off ++ (aC g (xs.take k) (ys.take k) c0).1 ++ cs.drop (off + k))[off + k]'HKC.out = old at *
   go_wp2_with fail
   have hb3 := hb2.set_ (off + k) (g x y cc).1;rw [dS HOL.out (by omega)] at hb3;refine ⟨⟨k + 1, by omega, by go_num, ?_, ?_, ⟨?_, ?_⟩⟩, by simp [intOf]; omega⟩
   ·rw [HST.out]
   ·rw [HST.out]; exact hgs.2
   ·rw [HST.out]; exact hb3
   ·exact Gr.setCell (Gr.q HP.out.gr hq2) _ _
  ·obtain rfl : k = n := (by omega);go_wp2_with fail
   go_ret
   rw [List.take_of_length_le (by rw [LX.out]; omega), List.take_of_length_le (by rw [LY.out]; omega)] at *
   exact ⟨rfl, hp.blk, hp.gr⟩
theorem rW (Az Ax Ay : Option Addr) (nz cz nx cx n cy gz t off c0 : Nat) (xs ys cs : List Nat) (w : World) (p : Value) (g : Nat → Nat → Nat → Nat × Nat) (Pc : Nat → Prop) (hg : ∀ x y c, x < W64 → y < W64 → Pc c → (g x y c).1 < W64 ∧ Pc (g x y c).2) (hc0 : Pc c0)
  (H : ∀ (x y c : Nat) (w1 : World), x < W64 → y < W64 → Pc c → w.grownBy w1 (some gz) → Calls Tryz.prog 230 #[.int .u64 (x : Int), .int .u64 (y : Int), .int .u64 (c : Int), p] w1 fun e w' => e = .returned (.tuple #[.int .u64 ((g x y c).1 : Int), .int .u64 ((g x y c).2 : Int)]) ∧ Q w1 w')
  (hb : Blk .u64 w gz t cs) (hoff : off + n ≤ cs.length) (hz : 0 < n → Az = some ⟨gz, off, none⟩) (hnz : n ≤ cz) (hnx : n ≤ cx) (hny : n ≤ cy) (hn : n ≤ 1099511627776) (lx : xs.length = n) (ly : ys.length = n) (sx : Src w gz off Ax xs) (sy : Src w gz off Ay ys) (hx : ∀ d ∈ xs, d < W64) (hy : ∀ d ∈ ys, d < W64) : Calls Tryz.prog 183 #[.slice Az nz cz, .slice Ax nx cx, .slice Ay n cy, .int .u64 (c0 : Int), .func (.func 230) #[] #[p]] w
   fun e w' => e = .returned (.int .u64 ((aC g xs ys c0).2 : Int)) ∧ Blk .u64 w' gz t (cs.take off ++ (aC g xs ys c0).1 ++ cs.drop (off + n)) ∧ w.grownBy w' (some gz) := by
 have LX := Lib.hid lx; have LY := Lib.hid ly; clear lx ly;have HH := Lib.hid H; clear H;go_enter Tryz.func183, Tryz.ntmps183
 go_wp2_with fail
 go_quiet (fail)
 go_wp2_with fail
 go_loopw [3, 23] (fun cv iv w1 => ∃ k : Nat, k ≤ n ∧ iv = .int .i64 (k : Int) ∧ cv = .int .u64 ((aC g (xs.take k) (ys.take k) c0).2 : Int) ∧ Pc (aC g (xs.take k) (ys.take k) c0).2 ∧
     Part w w1 gz t off k cs (aC g (xs.take k) (ys.take k) c0).1) (fun _ iv _ => n - (intOf iv).toNat)
 case atStart => exact ⟨0, by omega, rfl, rfl, hc0, ⟨by rw [List.take_zero, List.take_zero, bU, bL]; exact hb, Gr.drewN (Gr.refl _ _) _⟩⟩
 case round =>
  obtain ⟨k, hk, rfl, rfl, hpc, hp⟩ := hrel;by_cases hlt : k < n
  ·have hol : (aC g (xs.take k) (ys.take k) c0).1.length = k := by
    rw [aP _ _ _ _ (by rw [List.length_take, List.length_take, LX.out, LY.out]), List.length_take, LX.out]; omega
   obtain ⟨bx, qx, rfl, hcx⟩ := sx.at_ hb hp hol hoff LX.out hlt;obtain ⟨by_, qy, rfl, hcy⟩ := sy.at_ hb hp hol hoff LY.out hlt;obtain rfl := hz (by omega);have hkx : k < xs.length := (by rw [LX.out]; exact hlt);have hky : k < ys.length := (by rw [LY.out]; exact hlt);have hst := fE g c0 hkx hky;have bx' : xs[k] < W64 := hx _ (List.getElem_mem _);have by' : ys[k] < W64 := hy _ (List.getElem_mem _);generalize xs[k] = x at *
   generalize ys[k] = y at *
   have HST := Lib.hid hst; clear hst;have HOL := Lib.hid hol; clear hol;have hcb := hp.blk;have hkc : off + k < (cs.take off ++ (aC g (xs.take k) (ys.take k) c0).1 ++ cs.drop (off + k)).length := by
    rw [aO HOL.out (by omega)]; omega
   have HP := Lib.hid hp; clear hp hcb;have HKC := Lib.hid hkc; clear hkc;have hgs := hg x y _ bx' by' hpc;generalize hcc : (aC g (xs.take k) (ys.take k) c0).2 = cc at *
   have HCC := Lib.hid hcc; clear hcc;go_wp2_with fail
   refine (HH.out x y cc _ bx' by' hpc HP.out.gr).mono ?_;rintro e w2 ⟨rfl, hq2⟩;have hb2 := HP.out.blk.q hq2;have hcell := hb2.cell HKC.out;have hfz := hb2.frozen (off + k);generalize (cs.take off ++ (aC g (xs.take k) (ys.take k) c0).1 ++ cs.drop (off + k))[off + k]'HKC.out = old at *
   go_wp2_with fail
   have hb3 := hb2.set_ (off + k) (g x y cc).1;rw [dS HOL.out (by omega)] at hb3;refine ⟨⟨k + 1, by omega, by go_num, ?_, ?_, ⟨?_, ?_⟩⟩, by simp [intOf]; omega⟩
   ·rw [HST.out]
   ·rw [HST.out]; exact hgs.2
   ·rw [HST.out]; exact hb3
   ·exact Gr.setCell (Gr.q HP.out.gr hq2) _ _
  ·obtain rfl : k = n := (by omega);go_wp2_with fail
   go_ret
   rw [List.take_of_length_le (by rw [LX.out]; omega), List.take_of_length_le (by rw [LY.out]; omega)] at *
   exact ⟨rfl, hp.blk, hp.gr⟩
theorem rX (Az Ax Ay : Option Addr) (nz cz nx cx n cy gz t off c0 : Nat) (xs ys cs : List Nat) (w : World) (p : Value) (g : Nat → Nat → Nat → Nat × Nat) (Pc : Nat → Prop) (hg : ∀ x y c, x < W64 → y < W64 → Pc c → (g x y c).1 < W64 ∧ Pc (g x y c).2) (hc0 : Pc c0)
  (H : ∀ (x y c : Nat) (w1 : World), x < W64 → y < W64 → Pc c → w.grownBy w1 (some gz) → Calls Tryz.prog 250 #[.int .u64 (x : Int), .int .u64 (y : Int), .int .u64 (c : Int), p] w1 fun e w' => e = .returned (.tuple #[.int .u64 ((g x y c).1 : Int), .int .u64 ((g x y c).2 : Int)]) ∧ Q w1 w')
  (hb : Blk .u64 w gz t cs) (hoff : off + n ≤ cs.length) (hz : 0 < n → Az = some ⟨gz, off, none⟩) (hnz : n ≤ cz) (hnx : n ≤ cx) (hny : n ≤ cy) (hn : n ≤ 1099511627776) (lx : xs.length = n) (ly : ys.length = n) (sx : Src w gz off Ax xs) (sy : Src w gz off Ay ys) (hx : ∀ d ∈ xs, d < W64) (hy : ∀ d ∈ ys, d < W64) : Calls Tryz.prog 183 #[.slice Az nz cz, .slice Ax nx cx, .slice Ay n cy, .int .u64 (c0 : Int), .func (.func 250) #[] #[p]] w
   fun e w' => e = .returned (.int .u64 ((aC g xs ys c0).2 : Int)) ∧ Blk .u64 w' gz t (cs.take off ++ (aC g xs ys c0).1 ++ cs.drop (off + n)) ∧ w.grownBy w' (some gz) := by
 have LX := Lib.hid lx; have LY := Lib.hid ly; clear lx ly;have HH := Lib.hid H; clear H;go_enter Tryz.func183, Tryz.ntmps183
 go_wp2_with fail
 go_quiet (fail)
 go_wp2_with fail
 go_loopw [3, 23] (fun cv iv w1 => ∃ k : Nat, k ≤ n ∧ iv = .int .i64 (k : Int) ∧ cv = .int .u64 ((aC g (xs.take k) (ys.take k) c0).2 : Int) ∧ Pc (aC g (xs.take k) (ys.take k) c0).2 ∧
     Part w w1 gz t off k cs (aC g (xs.take k) (ys.take k) c0).1) (fun _ iv _ => n - (intOf iv).toNat)
 case atStart => exact ⟨0, by omega, rfl, rfl, hc0, ⟨by rw [List.take_zero, List.take_zero, bU, bL]; exact hb, Gr.drewN (Gr.refl _ _) _⟩⟩
 case round =>
  obtain ⟨k, hk, rfl, rfl, hpc, hp⟩ := hrel;by_cases hlt : k < n
  ·have hol : (aC g (xs.take k) (ys.take k) c0).1.length = k := by
    rw [aP _ _ _ _ (by rw [List.length_take, List.length_take, LX.out, LY.out]), List.length_take, LX.out]; omega
   obtain ⟨bx, qx, rfl, hcx⟩ := sx.at_ hb hp hol hoff LX.out hlt;obtain ⟨by_, qy, rfl, hcy⟩ := sy.at_ hb hp hol hoff LY.out hlt;obtain rfl := hz (by omega);have hkx : k < xs.length := (by rw [LX.out]; exact hlt);have hky : k < ys.length := (by rw [LY.out]; exact hlt);have hst := fE g c0 hkx hky;have bx' : xs[k] < W64 := hx _ (List.getElem_mem _);have by' : ys[k] < W64 := hy _ (List.getElem_mem _);generalize xs[k] = x at *
   generalize ys[k] = y at *
   have HST := Lib.hid hst; clear hst;have HOL := Lib.hid hol; clear hol;have hcb := hp.blk;have hkc : off + k < (cs.take off ++ (aC g (xs.take k) (ys.take k) c0).1 ++ cs.drop (off + k)).length := by
    rw [aO HOL.out (by omega)]; omega
   have HP := Lib.hid hp; clear hp hcb;have HKC := Lib.hid hkc; clear hkc;have hgs := hg x y _ bx' by' hpc;generalize hcc : (aC g (xs.take k) (ys.take k) c0).2 = cc at *
   have HCC := Lib.hid hcc; clear hcc;go_wp2_with fail
   refine (HH.out x y cc _ bx' by' hpc HP.out.gr).mono ?_;rintro e w2 ⟨rfl, hq2⟩;have hb2 := HP.out.blk.q hq2;have hcell := hb2.cell HKC.out;have hfz := hb2.frozen (off + k);generalize (cs.take off ++ (aC g (xs.take k) (ys.take k) c0).1 ++ cs.drop (off + k))[off + k]'HKC.out = old at *
   go_wp2_with fail
   have hb3 := hb2.set_ (off + k) (g x y cc).1;rw [dS HOL.out (by omega)] at hb3;refine ⟨⟨k + 1, by omega, by go_num, ?_, ?_, ⟨?_, ?_⟩⟩, by simp [intOf]; omega⟩
   ·rw [HST.out]
   ·rw [HST.out]; exact hgs.2
   ·rw [HST.out]; exact hb3
   ·exact Gr.setCell (Gr.q HP.out.gr hq2) _ _
  ·obtain rfl : k = n := (by omega);go_wp2_with fail
   go_ret
   rw [List.take_of_length_le (by rw [LX.out]; omega), List.take_of_length_le (by rw [LY.out]; omega)] at *
   exact ⟨rfl, hp.blk, hp.gr⟩
theorem uO (Az Ax Ay : Option Addr) (nz cz nx cx n cy gz t off c0 : Nat) (xs ys cs : List Nat) (w : World) (p q : Value) (g : Nat → Nat → Nat → Nat × Nat) (Pc : Nat → Prop) (hg : ∀ x y c, x < W64 → y < W64 → Pc c → (g x y c).1 < W64 ∧ Pc (g x y c).2) (hc0 : Pc c0)
  (H : ∀ (x y c : Nat) (w1 : World), x < W64 → y < W64 → Pc c → w.grownBy w1 (some gz) → Calls Tryz.prog 239 #[.int .u64 (x : Int), .int .u64 (y : Int), .int .u64 (c : Int), p, q] w1 fun e w' => e = .returned (.tuple #[.int .u64 ((g x y c).1 : Int), .int .u64 ((g x y c).2 : Int)]) ∧ Q w1 w')
  (hb : Blk .u64 w gz t cs) (hoff : off + n ≤ cs.length) (hz : 0 < n → Az = some ⟨gz, off, none⟩) (hnz : n ≤ cz) (hnx : n ≤ cx) (hny : n ≤ cy) (hn : n ≤ 1099511627776) (lx : xs.length = n) (ly : ys.length = n) (sx : Src w gz off Ax xs) (sy : Src w gz off Ay ys) (hx : ∀ d ∈ xs, d < W64) (hy : ∀ d ∈ ys, d < W64) : Calls Tryz.prog 183 #[.slice Az nz cz, .slice Ax nx cx, .slice Ay n cy, .int .u64 (c0 : Int), .func (.func 239) #[] #[p, q]] w
   fun e w' => e = .returned (.int .u64 ((aC g xs ys c0).2 : Int)) ∧ Blk .u64 w' gz t (cs.take off ++ (aC g xs ys c0).1 ++ cs.drop (off + n)) ∧ w.grownBy w' (some gz) := by
 have LX := Lib.hid lx; have LY := Lib.hid ly; clear lx ly;have HH := Lib.hid H; clear H;go_enter Tryz.func183, Tryz.ntmps183
 go_wp2_with fail
 go_quiet (fail)
 go_wp2_with fail
 go_loopw [3, 23] (fun cv iv w1 => ∃ k : Nat, k ≤ n ∧ iv = .int .i64 (k : Int) ∧ cv = .int .u64 ((aC g (xs.take k) (ys.take k) c0).2 : Int) ∧ Pc (aC g (xs.take k) (ys.take k) c0).2 ∧
     Part w w1 gz t off k cs (aC g (xs.take k) (ys.take k) c0).1) (fun _ iv _ => n - (intOf iv).toNat)
 case atStart => exact ⟨0, by omega, rfl, rfl, hc0, ⟨by rw [List.take_zero, List.take_zero, bU, bL]; exact hb, Gr.drewN (Gr.refl _ _) _⟩⟩
 case round =>
  obtain ⟨k, hk, rfl, rfl, hpc, hp⟩ := hrel;by_cases hlt : k < n
  ·have hol : (aC g (xs.take k) (ys.take k) c0).1.length = k := by
    rw [aP _ _ _ _ (by rw [List.length_take, List.length_take, LX.out, LY.out]), List.length_take, LX.out]; omega
   obtain ⟨bx, qx, rfl, hcx⟩ := sx.at_ hb hp hol hoff LX.out hlt;obtain ⟨by_, qy, rfl, hcy⟩ := sy.at_ hb hp hol hoff LY.out hlt;obtain rfl := hz (by omega);have hkx : k < xs.length := (by rw [LX.out]; exact hlt);have hky : k < ys.length := (by rw [LY.out]; exact hlt);have hst := fE g c0 hkx hky;have bx' : xs[k] < W64 := hx _ (List.getElem_mem _);have by' : ys[k] < W64 := hy _ (List.getElem_mem _);generalize xs[k] = x at *
   generalize ys[k] = y at *
   have HST := Lib.hid hst; clear hst;have HOL := Lib.hid hol; clear hol;have hcb := hp.blk;have hkc : off + k < (cs.take off ++ (aC g (xs.take k) (ys.take k) c0).1 ++ cs.drop (off + k)).length := by
    rw [aO HOL.out (by omega)]; omega
   have HP := Lib.hid hp; clear hp hcb;have HKC := Lib.hid hkc; clear hkc;have hgs := hg x y _ bx' by' hpc;generalize hcc : (aC g (xs.take k) (ys.take k) c0).2 = cc at *
   have HCC := Lib.hid hcc; clear hcc;go_wp2_with fail
   refine (HH.out x y cc _ bx' by' hpc HP.out.gr).mono ?_;rintro e w2 ⟨rfl, hq2⟩;have hb2 := HP.out.blk.q hq2;have hcell := hb2.cell HKC.out;have hfz := hb2.frozen (off + k);generalize (cs.take off ++ (aC g (xs.take k) (ys.take k) c0).1 ++ cs.drop (off + k))[off + k]'HKC.out = old at *
   go_wp2_with fail
   have hb3 := hb2.set_ (off + k) (g x y cc).1;rw [dS HOL.out (by omega)] at hb3;refine ⟨⟨k + 1, by omega, by go_num, ?_, ?_, ⟨?_, ?_⟩⟩, by simp [intOf]; omega⟩
   ·rw [HST.out]
   ·rw [HST.out]; exact hgs.2
   ·rw [HST.out]; exact hb3
   ·exact Gr.setCell (Gr.q HP.out.gr hq2) _ _
  ·obtain rfl : k = n := (by omega);go_wp2_with fail
   go_ret
   rw [List.take_of_length_le (by rw [LX.out]; omega), List.take_of_length_le (by rw [LY.out]; omega)] at *
   exact ⟨rfl, hp.blk, hp.gr⟩
theorem tF (f : Nat) (hf : f < W64) (x y c : Nat) (hx : x < W64) (_ : y < W64) (hc : c < W64) : (iL f x y c).1 < W64 ∧ (iL f x y c).2 < W64 := by
 have h := xM hx hf hc rfl rfl rfl rfl;refine ⟨Nat.mod_lt _ (by decide), ?_⟩;have := h.2.2;rw [h.2.1] at this;exact this
theorem mF (f : Nat) (hf : f < W64) (x y c : Nat) (hx : x < W64) (hy : y < W64) (hc : c < W64) : (dV f x y c).1 < W64 ∧ (dV f x y c).2 < W64 := by
 have h := pM hx hy hf hc rfl rfl rfl rfl rfl rfl;refine ⟨Nat.mod_lt _ (by decide), ?_⟩;have h3 := h.2.2.1;rw [h.2.1] at h3;exact h3
theorem mG (f : Nat) (hf : f < W64) (x y c : Nat) (_ : x < W64) (hy : y < W64) (hc : c < W64) : (iO f x y c).1 < W64 ∧ (iO f x y c).2 < W64 := by
 have h := pO (x := x) hy hf hc rfl rfl rfl rfl rfl rfl;refine ⟨aDZ f x y c, ?_⟩;have h3 := h.2.2.1;rw [h.2.1] at h3;exact h3
theorem qG (Az Ax : Option Addr) (nz cz nx cx gz t off f c0 : Nat) (xs cs : List Nat) (w : World) (hb : Blk .u64 w gz t cs) (lx : xs.length = nx) (hoff : off + nx ≤ cs.length) (hz : 0 < nx → Az = some ⟨gz, off, none⟩) (hnz : nx ≤ cz) (hcx : nx ≤ cx) (hn : nx ≤ 1099511627776) (sx : Src w gz off Ax xs) (hx : ∀ d ∈ xs, d < W64) (hf : f < W64) (hc : c0 < W64) : Calls Tryz.prog 141 #[.slice Az nz cz, .slice Ax nx cx, .int .u64 (f : Int), .int .u64 (c0 : Int)] w
   fun e w' => ∃ (o : List Nat) (c : Nat), e = .returned (.int .u64 (c : Int)) ∧ c < W64 ∧ o.length = nx ∧ (∀ d ∈ o, d < W64) ∧ vl W64 o + W64 ^ nx * c = f * vl W64 xs + c0 ∧
    Blk .u64 w' gz t (cs.take off ++ o ++ cs.drop (off + nx)) ∧ w.grownBy w' (some gz) := by
 go_enter Tryz.func141, Tryz.ntmps141
 go_wp2_with fail
 have hbox : ∀ w1 : World, (w.alloc (.cells #[.int .u64 (f : Int)] 140)).grownBy w1 (some gz) → w1.cell? ⟨w.heap.size, 0, none⟩ = some (.int .u64 (f : Int)) := fun w1 hg => by
  rw [Gr.cell hg (p := ⟨w.heap.size, 0, none⟩) (by simp) (fun e => by have := hb.lt; simp only at e; omega)];exact cO _ _ _
 have sx1 : Src (w.alloc (.cells #[.int .u64 (f : Int)] 140)) gz off Ax xs := sx.q ((Q.refl _).alloc _)
 refine (xB Az Ax Ax nz cz nx cx nx cx gz t off c0 xs xs cs _ (.pointer (some ⟨w.heap.size, 0, none⟩)) (iL f) (· < W64) (tF f hf) hc
  (fun x y c w1 hx _ hc hg => aDn f x y c _ w1 hx hc hf (hbox w1 hg)) (hb.alloc _) hoff hz hnz hcx hcx hn lx lx sx1 sx1 hx hx).mono ?_
 rintro e w1 ⟨rfl, hb1, hg1⟩;have h1 := gV (b := W64) (P := (· < W64)) (tF f hf) (c := c0) rfl hx hx hc;have v1 := lJ (b := W64) (p := f) (q := 0) (P := (· < W64)) (tF f hf) (fun x y c _ _ _ => by
  unfold iL; rw [Nat.mod_add_div, Nat.mul_comm x]; omega) (c := c0) rfl hx hx hc
 have l1 := aP (iL f) xs xs c0 rfl;rw [lx] at l1 v1;generalize (aC (iL f) xs xs c0).1 = o1 at *
 generalize (aC (iL f) xs xs c0).2 = c1 at *
 have V1 := Lib.hid v1; have L1 := Lib.hid l1; clear v1 l1 lx;go_wp2_with fail
 go_ret
 exact ⟨o1, c1, rfl, h1.2, L1.out, h1.1, by rw [V1.out]; omega, hb1, Gr.trans (Gr.alloc (Gr.refl _ _) _) hg1⟩
theorem aAl (Az Ay : Option Addr) (nz cz ny cy gz t off f : Nat) (ys cs : List Nat) (w : World) (hb : Blk .u64 w gz t cs) (ly : ys.length = ny) (hoff : off + ny ≤ cs.length) (hz : 0 < ny → Az = some ⟨gz, off, none⟩) (hnz : ny ≤ cz) (hcy : ny ≤ cy) (hn : ny ≤ 1099511627776) (sy : Src w gz off Ay ys) (hy : ∀ d ∈ ys, d < W64) (hcs : ∀ d ∈ cs, d < W64) (hf : f < W64) : Calls Tryz.prog 210 #[.slice Az nz cz, .slice Ay ny cy, .int .u64 (f : Int)] w
   fun e w' => ∃ (o : List Nat) (c : Nat), e = .returned (.int .u64 (c : Int)) ∧ c < W64 ∧ o.length = ny ∧ (∀ d ∈ o, d < W64) ∧ vl W64 o + W64 ^ ny * c = vl W64 ((cs.drop off).take ny) + f * vl W64 ys ∧
    Blk .u64 w' gz t (cs.take off ++ o ++ cs.drop (off + ny)) ∧ w.grownBy w' (some gz) := by
 go_enter Tryz.func210, Tryz.ntmps210
 go_wp2_with fail
 have hbox : ∀ w1 : World, (w.alloc (.cells #[.int .u64 (f : Int)] 140)).grownBy w1 (some gz) → w1.cell? ⟨w.heap.size, 0, none⟩ = some (.int .u64 (f : Int)) := fun w1 hg => by
  rw [Gr.cell hg (p := ⟨w.heap.size, 0, none⟩) (by simp) (fun e => by have := hb.lt; simp only at e; omega)];exact cO _ _ _
 have hq1 : Q w (w.alloc (.cells #[.int .u64 (f : Int)] 140)) := (Q.refl _).alloc _;have lz : ((cs.drop off).take ny).length = ny := by rw [List.length_take, List.length_drop]; omega
 have hzd : ∀ d ∈ (cs.drop off).take ny, d < W64 := aI (fA hcs);have sz : Src (w.alloc (.cells #[.int .u64 (f : Int)] 140)) gz off Az ((cs.drop off).take ny) := by
  rcases Nat.eq_zero_or_pos ny with h0 | h0
  ·subst h0; rw [List.take_zero]; exact Src.nil
  ·rw [hz h0]; exact (Src.own (hb.q hq1))
 have sy1 := sy.q hq1
 refine (rW Az Az Ay nz cz nz cz ny cy gz t off 0 ((cs.drop off).take ny) ys cs _ (.pointer (some ⟨w.heap.size, 0, none⟩)) (dV f) (· < W64) (mF f hf) (by decide)
  (fun x y c w1 hx hy hc hg => yS f x y c _ w1 hx hy hc hf (hbox w1 hg)) (hb.alloc _) hoff hz hnz hnz hcy hn lz ly sz sy1 hzd hy).mono ?_
 rintro e w1 ⟨rfl, hb1, hg1⟩;have h1 := gV (b := W64) (P := (· < W64)) (mF f hf) (c := 0) (lz.trans ly.symm) hzd hy (by decide);have v1 := lJ (b := W64) (p := 1) (q := f) (P := (· < W64)) (mF f hf) (fun x y c _ _ _ => by
  unfold dV; rw [Nat.mod_add_div, Nat.mul_comm y]; omega) (c := 0) (lz.trans ly.symm) hzd hy (by decide)
 have l1 := aP (dV f) ((cs.drop off).take ny) ys 0 (lz.trans ly.symm);rw [lz] at l1 v1;generalize (aC (dV f) ((cs.drop off).take ny) ys 0).1 = o1 at *
 generalize (aC (dV f) ((cs.drop off).take ny) ys 0).2 = c1 at *
 have V1 := Lib.hid v1; have L1 := Lib.hid l1; clear v1 l1 lz ly;go_wp2_with fail
 go_ret
 exact ⟨o1, c1, rfl, h1.2, L1.out, h1.1, by rw [V1.out]; omega, hb1, Gr.trans (Gr.alloc (Gr.refl _ _) _) hg1⟩
theorem aAm (Az Ay : Option Addr) (nz cz ny cy gz t off f : Nat) (ys cs : List Nat) (w : World) (hb : Blk .u64 w gz t cs) (ly : ys.length = ny) (hoff : off + ny ≤ cs.length) (hz : 0 < ny → Az = some ⟨gz, off, none⟩) (hnz : ny ≤ cz) (hcy : ny ≤ cy) (hn : ny ≤ 1099511627776) (sy : Src w gz off Ay ys) (hy : ∀ d ∈ ys, d < W64) (hcs : ∀ d ∈ cs, d < W64) (hf : f < W64) : Calls Tryz.prog 246 #[.slice Az nz cz, .slice Ay ny cy, .int .u64 (f : Int)] w
   fun e w' => ∃ (o : List Nat) (c : Nat), e = .returned (.int .u64 (c : Int)) ∧ c < W64 ∧ o.length = ny ∧ (∀ d ∈ o, d < W64) ∧ vl W64 ((cs.drop off).take ny) + W64 ^ ny * c = vl W64 o + f * vl W64 ys ∧
    Blk .u64 w' gz t (cs.take off ++ o ++ cs.drop (off + ny)) ∧ w.grownBy w' (some gz) := by
 go_enter Tryz.func246, Tryz.ntmps246
 go_wp2_with fail
 have hbox : ∀ w1 : World, (w.alloc (.cells #[.int .u64 (f : Int)] 140)).grownBy w1 (some gz) → w1.cell? ⟨w.heap.size, 0, none⟩ = some (.int .u64 (f : Int)) := fun w1 hg => by
  rw [Gr.cell hg (p := ⟨w.heap.size, 0, none⟩) (by simp) (fun e => by have := hb.lt; simp only at e; omega)];exact cO _ _ _
 have hq1 : Q w (w.alloc (.cells #[.int .u64 (f : Int)] 140)) := (Q.refl _).alloc _;have lz : ((cs.drop off).take ny).length = ny := by rw [List.length_take, List.length_drop]; omega
 have hzd : ∀ d ∈ (cs.drop off).take ny, d < W64 := aI (fA hcs);have sz : Src (w.alloc (.cells #[.int .u64 (f : Int)] 140)) gz off Az ((cs.drop off).take ny) := by
  rcases Nat.eq_zero_or_pos ny with h0 | h0
  ·subst h0; rw [List.take_zero]; exact Src.nil
  ·rw [hz h0]; exact (Src.own (hb.q hq1))
 have sy1 := sy.q hq1
 refine (rX Az Az Ay nz cz nz cz ny cy gz t off 0 ((cs.drop off).take ny) ys cs _ (.pointer (some ⟨w.heap.size, 0, none⟩)) (iO f) (· < W64) (mG f hf) (by decide)
  (fun x y c w1 _ hy hc hg => yT f x y c _ w1 hy hc hf (hbox w1 hg)) (hb.alloc _) hoff hz hnz hnz hcy hn lz ly sz sy1 hzd hy).mono ?_
 rintro e w1 ⟨rfl, hb1, hg1⟩;have h1 := gV (b := W64) (P := (· < W64)) (mG f hf) (c := 0) (lz.trans ly.symm) hzd hy (by decide);have v1 := pQ (b := W64) (q := f) (P := (· < W64)) (mG f hf) (fun x y c hx _ _ => by
  have := aCS (f := f) (y := y) (c := c) hx;rw [Nat.mul_comm f]; exact this) (c := 0) (lz.trans ly.symm) hzd hy (by decide)
 have l1 := aP (iO f) ((cs.drop off).take ny) ys 0 (lz.trans ly.symm);rw [lz] at l1 v1;generalize (aC (iO f) ((cs.drop off).take ny) ys 0).1 = o1 at *
 generalize (aC (iO f) ((cs.drop off).take ny) ys 0).2 = c1 at *
 have V1 := Lib.hid v1; have L1 := Lib.hid l1; clear v1 l1 lz ly;go_wp2_with fail
 go_ret
 exact ⟨o1, c1, rfl, h1.2, L1.out, h1.1, V1.out, hb1, Gr.trans (Gr.alloc (Gr.refl _ _) _) hg1⟩
theorem mY (Az Ax Ay : Option Addr) (nz cz nx cx ny cy gz t off f g : Nat) (xs ys cs : List Nat) (w : World) (hb : Blk .u64 w gz t cs) (lx : xs.length = ny) (ly : ys.length = ny) (hnx : nx = ny) (hoff : off + ny ≤ cs.length) (hz : 0 < ny → Az = some ⟨gz, off, none⟩) (hnz : ny ≤ cz) (hcx : ny ≤ cx) (hcy : ny ≤ cy) (hn : ny ≤ 1099511627776) (sx : Src w gz off Ax xs) (sy : Src w gz off Ay ys) (hx : ∀ d ∈ xs, d < W64) (hy : ∀ d ∈ ys, d < W64) (hf : f < 9223372036854775808) (hg : g < 9223372036854775808) (hle : g * vl W64 ys ≤ f * vl W64 xs) (hlt : f * vl W64 xs - g * vl W64 ys < W64 ^ ny) : Calls Tryz.prog 220 #[.slice Az nz cz, .slice Ax nx cx, .slice Ay ny cy, .int .u64 (f : Int), .int .u64 (g : Int)] w
   fun e w' => ∃ (o : List Nat), e = .returned (.tuple #[]) ∧ o.length = ny ∧ (∀ d ∈ o, d < W64) ∧ vl W64 o = f * vl W64 xs - g * vl W64 ys ∧
    Blk .u64 w' gz t (cs.take off ++ o ++ cs.drop (off + ny)) ∧ w.grownBy w' (some gz) := by
 subst hnx;have hf6 : f < W64 := by rw [aU]; omega
 have hg6 : g < W64 := by rw [aU]; omega
 have LX := Lib.hid lx; have LY := Lib.hid ly; clear lx ly;go_enter Tryz.func220, Tryz.ntmps220
 go_wp2_with fail
 have hq2 : Q w ((w.alloc (.cells #[.int .u64 (f : Int)] 140)).alloc (.cells #[.int .u64 (g : Int)] 140)) := ((Q.refl _).alloc _).alloc _;have hbox : ∀ w1 : World, ((w.alloc (.cells #[.int .u64 (f : Int)] 140)).alloc (.cells #[.int .u64 (g : Int)] 140)).grownBy w1 (some gz) →
     w1.cell? ⟨w.heap.size, 0, none⟩ = some (.int .u64 (f : Int)) ∧ w1.cell? ⟨w.heap.size + 1, 0, none⟩ = some (.int .u64 (g : Int)) := fun w1 hg => by
  constructor
  ·rw [Gr.cell hg (p := ⟨w.heap.size, 0, none⟩) (by simp; omega) (fun e => by have := hb.lt; simp only at e; omega), World.cell?_alloc_lt _ _ _ (by simp)];exact cO _ _ _
  ·rw [Gr.cell hg (p := ⟨w.heap.size + 1, 0, none⟩) (by simp) (fun e => by have := hb.lt; simp only at e; omega)];have h := cO (w.alloc (.cells #[.int .u64 (f : Int)] 140)) (.int .u64 (g : Int)) 140;rw [show (w.alloc (.cells #[.int .u64 (f : Int)] 140)).heap.size = w.heap.size + 1 by simp] at h;exact h
 refine (uO Az Ax Ay nz cz nx cx nx cy gz t off 0 xs ys cs _ (.pointer (some ⟨w.heap.size, 0, none⟩)) (.pointer (some ⟨w.heap.size + 1, 0, none⟩)) (dK f g) (· < W64) (fun x y c _ _ _ => rA f g x y c) (by decide)
  (fun x y c w1 hx hy hc hgr => aBj f g x y c _ _ w1 hx hy hc hf6 hg6 (hbox w1 hgr).1 (hbox w1 hgr).2) (hb.q hq2) hoff hz hnz hcx hcy hn LX.out LY.out (sx.q hq2) (sy.q hq2) hx hy).mono ?_
 rintro e w1 ⟨rfl, hb1, hg1⟩;have hl := LX.out.trans LY.out.symm;have h1 := gV (b := W64) (P := (· < W64)) (g := dK f g) (fun x y c _ _ _ => rA f g x y c) (c := 0) hl hx hy (by decide);have v1 := wX hf hg hl hx hy hle (by rw [LX.out]; exact hlt);have l1 := aP (dK f g) xs ys 0 hl;rw [LX.out] at l1;generalize (aC (dK f g) xs ys 0).1 = o1 at *
 have V1 := Lib.hid v1; have L1 := Lib.hid l1; clear v1 l1;go_wp2_with fail
 go_end0
 exact ⟨o1, rfl, L1.out, h1.1, V1.out, hb1, Gr.trans (Gr.alloc (Gr.alloc (Gr.refl _ _) _) _) hg1⟩
theorem kV (x y c : Nat) (hx : x < W64) (_ : y < W64) (hc : c ≤ 1) : (eO x y c).1 < W64 ∧ (eO x y c).2 ≤ 1 := by
 unfold eO;rw [aU] at *
 show (x + c) % _ < _ ∧ (x + c) / _ ≤ 1;omega
theorem kW (x y c : Nat) (_ : x < W64) (_ : y < W64) (_ : c ≤ 1) : (dJ x y c).1 < W64 ∧ (dJ x y c).2 ≤ 1 := by
 unfold dJ;refine ⟨Nat.mod_lt _ (by decide), ?_⟩;show (if x < c then 1 else 0) ≤ 1;split <;> omega
theorem oQ (Az Ax Ay : Option Addr) (nz cz nx cx ny cy gz t off : Nat) (xs ys cs : List Nat) (w : World) (hb : Blk .u64 w gz t cs) (lx : xs.length = nx) (ly : ys.length = ny) (hyx : ny ≤ nx) (hoff : off + nx ≤ cs.length) (hz : 0 < nx → Az = some ⟨gz, off, none⟩) (hnz : nx ≤ nz) (hcz : nz ≤ cz) (hcx : nx ≤ cx) (hcy : ny ≤ cy) (hn : nx ≤ 1099511627776) (sx : Src w gz off Ax xs) (sy : Src w gz off Ay ys) (hx : ∀ d ∈ xs, d < W64) (hy : ∀ d ∈ ys, d < W64) : Calls Tryz.prog 212 #[.slice Az nz cz, .slice Ax nx cx, .slice Ay ny cy] w
   fun e w' => ∃ (o : List Nat) (c : Nat), e = .returned (.int .u64 (c : Int)) ∧ c ≤ 1 ∧ o.length = nx ∧ (∀ d ∈ o, d < W64) ∧ vl W64 o + W64 ^ nx * c = vl W64 xs + vl W64 ys ∧
    Blk .u64 w' gz t (cs.take off ++ o ++ cs.drop (off + nx)) ∧ w.grownBy w' (some gz) := by
 have LX := Lib.hid lx; have LY := Lib.hid ly; clear lx ly;have lt1 : (xs.take ny).length = ny := by rw [List.length_take, LX.out]; omega
 have lt2 : (xs.drop ny).length = nx - ny := by rw [List.length_drop, LX.out]
 have LT1 := Lib.hid lt1; have LT2 := Lib.hid lt2; clear lt1 lt2;go_enter Tryz.func212, Tryz.ntmps212
 go_wp2_with fail
 refine (aAi Az Ax Ay nz cz nx cx ny cy gz t off 0 (xs.take ny) ys cs w (by omega) hb (by omega) (fun h => hz (by omega)) (by omega) (by omega) hcy (by omega) LT1.out LY.out (sx.take ny) sy (aI hx) hy).mono ?_;rintro e w1 ⟨rfl, hb1, hg1⟩;have h1 := gV (b := W64) (P := (· ≤ 1)) sW (c := 0) (by rw [LT1.out, LY.out]) (aI (n := ny) hx) hy (by omega);have v1 := lJ (b := W64) (p := 1) (q := 1) (P := (· ≤ 1)) sW (fun x y c _ _ _ => by
  unfold dL; rw [Nat.mod_add_div]; omega) (c := 0) (by rw [LT1.out, LY.out]) (aI (n := ny) hx) hy (by omega)
 have l1 := aP dL (xs.take ny) ys 0 (by rw [LT1.out, LY.out]);rw [LT1.out] at l1 v1;have sx1 := sx.after hb hb1 hg1 l1 (by rw [LX.out]; omega) (by rw [LX.out]; exact hoff) (cap := cx) (by rw [LX.out]; exact hcx);generalize (aC dL (xs.take ny) ys 0).1 = o1 at *
 generalize (aC dL (xs.take ny) ys 0).2 = c1 at *
 have V1 := Lib.hid v1; have L1 := Lib.hid l1; clear v1 l1;rcases Nat.lt_or_ge ny nx with hlt | hge
 ·rw [if_neg (by omega)] at sx1;obtain rfl := hz (by omega);go_wp2_with fail
  go_quiet (fail)
  go_wp2_with fail
  have hl1 : (cs.take off ++ o1 ++ cs.drop (off + ny)).length = cs.length := aO L1.out (by omega);have hxd : ∀ d ∈ xs.drop ny, d < W64 := fA hx
  refine (mW _ _ _ (nz - ny) (cz - ny) (nx - ny) (cx - ny) (nx - ny) (cx - ny) gz t (off + ny) c1 (xs.drop ny) (xs.drop ny) (cs.take off ++ o1 ++ cs.drop (off + ny)) _ eO (· ≤ 1) kV h1.2
   (fun x y c w1 _ _ hc _ => uM x y c w1 hc) (hb1.drewN _) (by rw [hl1]; omega) (fun _ => by simp) (by omega) (by omega) (by omega) (by omega) LT2.out LT2.out sx1 sx1 hxd hxd).mono ?_
  rintro e w2 ⟨rfl, hb2, hg2⟩;have h2 := gV (b := W64) (P := (· ≤ 1)) kV (c := c1) rfl hxd hxd h1.2;have v2 := lJ (b := W64) (p := 1) (q := 0) (P := (· ≤ 1)) kV (fun x y c _ _ _ => by
   unfold eO; rw [Nat.mod_add_div]; omega) (c := c1) rfl hxd hxd h1.2
  have l2 := aP eO (xs.drop ny) (xs.drop ny) c1 rfl;rw [LT2.out] at l2 v2;generalize (aC eO (xs.drop ny) (xs.drop ny) c1).1 = o2 at *
  generalize (aC eO (xs.drop ny) (xs.drop ny) c1).2 = c2 at *
  rw [pI L1.out l2 (by omega), show ny + (nx - ny) = nx by omega] at hb2;have V2 := Lib.hid v2; have L2 := Lib.hid l2; clear v2 l2 hl1;go_wp2_with fail
  go_ret
  refine ⟨o1 ++ o2, c2, rfl, h2.2, by rw [List.length_append, L1.out, L2.out]; omega, ?_, ?_, hb2, Gr.trans (Gr.drewN hg1 _) hg2⟩
  ·intro d hd;rcases List.mem_append.1 hd with hd | hd
   ·exact h1.1 d hd
   ·exact h2.1 d hd
  ·rw [fD, L1.out, bI W64 ny xs (by rw [LX.out]; exact hyx)];exact aBD hyx V1.out V2.out
 ·obtain rfl : nx = ny := (by omega);have ext : xs.take nx = xs := List.take_of_length_le (by rw [LX.out]; exact Nat.le_refl _);rw [ext] at V1;go_wp2_with fail
  go_quiet (fail)
  go_wp2_with fail
  all_goals
   refine (mW _ _ _ _ _ 0 _ 0 _ gz t (off + nx) c1 [] [] (cs.take off ++ o1 ++ cs.drop (off + nx)) _ eO (· ≤ 1) kV h1.2
    (fun x y c w1 _ _ hc _ => uM x y c w1 hc) (hb1.drewN _) (by rw [aO L1.out (by omega)]; omega) (by omega) (by omega) (by omega) (by omega) (by omega) rfl rfl Src.nil Src.nil (by simp) (by simp)).mono ?_
   rintro e w2 ⟨rfl, hb2, hg2⟩;rw [bU, bL] at hb2;go_wp2_with fail
   go_ret
   exact ⟨o1, c1, rfl, h1.2, L1.out, h1.1, by rw [V1.out]; omega, hb2, Gr.trans (Gr.drewN hg1 _) hg2⟩
theorem aBk (Az Ax Ay : Option Addr) (nz cz nx cx ny cy gz t off : Nat) (xs ys cs : List Nat) (w : World) (hb : Blk .u64 w gz t cs) (lx : xs.length = nx) (ly : ys.length = ny) (hyx : ny ≤ nx) (hoff : off + nx ≤ cs.length) (hz : 0 < nx → Az = some ⟨gz, off, none⟩) (hnz : nx ≤ nz) (hcz : nz ≤ cz) (hcx : nx ≤ cx) (hcy : ny ≤ cy) (hn : nx ≤ 1099511627776) (sx : Src w gz off Ax xs) (sy : Src w gz off Ay ys) (hx : ∀ d ∈ xs, d < W64) (hy : ∀ d ∈ ys, d < W64) : Calls Tryz.prog 213 #[.slice Az nz cz, .slice Ax nx cx, .slice Ay ny cy] w
   fun e w' => ∃ (o : List Nat) (c : Nat), e = .returned (.int .u64 (c : Int)) ∧ c ≤ 1 ∧ o.length = nx ∧ (∀ d ∈ o, d < W64) ∧ vl W64 xs + W64 ^ nx * c = vl W64 o + vl W64 ys ∧
    Blk .u64 w' gz t (cs.take off ++ o ++ cs.drop (off + nx)) ∧ w.grownBy w' (some gz) := by
 have LX := Lib.hid lx; have LY := Lib.hid ly; clear lx ly;have lt1 : (xs.take ny).length = ny := by rw [List.length_take, LX.out]; omega
 have lt2 : (xs.drop ny).length = nx - ny := by rw [List.length_drop, LX.out]
 have LT1 := Lib.hid lt1; have LT2 := Lib.hid lt2; clear lt1 lt2;go_enter Tryz.func213, Tryz.ntmps213
 go_wp2_with fail
 refine (aAj Az Ax Ay nz cz nx cx ny cy gz t off 0 (xs.take ny) ys cs w (by omega) hb (by omega) (fun h => hz (by omega)) (by omega) (by omega) hcy (by omega) LT1.out LY.out (sx.take ny) sy (aI hx) hy).mono ?_;rintro e w1 ⟨rfl, hb1, hg1⟩;have h1 := gV (b := W64) (P := (· ≤ 1)) sZ (c := 0) (by rw [LT1.out, LY.out]) (aI (n := ny) hx) hy (by omega);have v1 := pQ (b := W64) (q := 1) (P := (· ≤ 1)) sZ (fun x y c hx hy hc => by
  unfold dI; rw [aU] at *; simp only; split <;> omega) (c := 0) (by rw [LT1.out, LY.out]) (aI (n := ny) hx) hy (by omega)
 have l1 := aP dI (xs.take ny) ys 0 (by rw [LT1.out, LY.out]);rw [LT1.out] at l1 v1;have sx1 := sx.after hb hb1 hg1 l1 (by rw [LX.out]; omega) (by rw [LX.out]; exact hoff) (cap := cx) (by rw [LX.out]; exact hcx);generalize (aC dI (xs.take ny) ys 0).1 = o1 at *
 generalize (aC dI (xs.take ny) ys 0).2 = c1 at *
 have V1 := Lib.hid v1; have L1 := Lib.hid l1; clear v1 l1;rcases Nat.lt_or_ge ny nx with hlt | hge
 ·rw [if_neg (by omega)] at sx1;obtain rfl := hz (by omega);go_wp2_with fail
  go_quiet (fail)
  go_wp2_with fail
  have hl1 : (cs.take off ++ o1 ++ cs.drop (off + ny)).length = cs.length := aO L1.out (by omega);have hxd : ∀ d ∈ xs.drop ny, d < W64 := fA hx
  refine (mX _ _ _ (nz - ny) (cz - ny) (nx - ny) (cx - ny) (nx - ny) (cx - ny) gz t (off + ny) c1 (xs.drop ny) (xs.drop ny) (cs.take off ++ o1 ++ cs.drop (off + ny)) _ dJ (· ≤ 1) kW h1.2
   (fun x y c w1 _ _ hc _ => uN x y c w1 hc) (hb1.drewN _) (by rw [hl1]; omega) (fun _ => by simp) (by omega) (by omega) (by omega) (by omega) LT2.out LT2.out sx1 sx1 hxd hxd).mono ?_
  rintro e w2 ⟨rfl, hb2, hg2⟩;have h2 := gV (b := W64) (P := (· ≤ 1)) kW (c := c1) rfl hxd hxd h1.2;have v2 := pQ (b := W64) (q := 0) (P := (· ≤ 1)) kW (fun x y c hx hy hc => by
   unfold dJ; rw [aU] at *; simp only; split <;> omega) (c := c1) rfl hxd hxd h1.2
  have l2 := aP dJ (xs.drop ny) (xs.drop ny) c1 rfl;rw [LT2.out] at l2 v2;generalize (aC dJ (xs.drop ny) (xs.drop ny) c1).1 = o2 at *
  generalize (aC dJ (xs.drop ny) (xs.drop ny) c1).2 = c2 at *
  rw [pI L1.out l2 (by omega), show ny + (nx - ny) = nx by omega] at hb2;have V2 := Lib.hid v2; have L2 := Lib.hid l2; clear v2 l2 hl1;go_wp2_with fail
  go_ret
  refine ⟨o1 ++ o2, c2, rfl, h2.2, by rw [List.length_append, L1.out, L2.out]; omega, ?_, ?_, hb2, Gr.trans (Gr.drewN hg1 _) hg2⟩
  ·intro d hd;rcases List.mem_append.1 hd with hd | hd
   ·exact h1.1 d hd
   ·exact h2.1 d hd
  ·rw [fD, L1.out, bI W64 ny xs (by rw [LX.out]; exact hyx)];exact aBE hyx V1.out V2.out
 ·obtain rfl : nx = ny := (by omega);have ext : xs.take nx = xs := List.take_of_length_le (by rw [LX.out]; exact Nat.le_refl _);rw [ext] at V1;go_wp2_with fail
  go_quiet (fail)
  go_wp2_with fail
  all_goals
   refine (mX _ _ _ _ _ 0 _ 0 _ gz t (off + nx) c1 [] [] (cs.take off ++ o1 ++ cs.drop (off + nx)) _ dJ (· ≤ 1) kW h1.2
    (fun x y c w1 _ _ hc _ => uN x y c w1 hc) (hb1.drewN _) (by rw [aO L1.out (by omega)]; omega) (by omega) (by omega) (by omega) (by omega) (by omega) rfl rfl Src.nil Src.nil (by simp) (by simp)).mono ?_
   rintro e w2 ⟨rfl, hb2, hg2⟩;rw [bU, bL] at hb2;go_wp2_with fail
   go_ret
   exact ⟨o1, c1, rfl, h1.2, L1.out, h1.1, by rw [V1.out]; omega, hb2, Gr.trans (Gr.drewN hg1 _) hg2⟩
theorem zB (A B : Option Addr) (n c d : Nat) (xs ys : List Nat) (w : World) (lx : Hid (xs.length = n)) (ly : Hid (ys.length = n)) (hn : n ≤ 9223372036854775807) (rx : Rw w A xs) (ry : Rw w B ys) (wx : Wf W64 xs) (wy : Wf W64 ys) :
  Calls Tryz.prog 148 #[.slice A n c, .slice B n d] w fun e w' => e = .returned (.int .i64 (cmp (vl W64 xs) (vl W64 ys))) ∧ Q w w' := by
 go_enter Tryz.func148, Tryz.ntmps148
 go_wp2_with fail
 go_loopw [5] (fun i w1 => ∃ k : Nat, k ≤ n ∧ i = .int .i64 ((k : Int) - 1) ∧ xs.drop k = ys.drop k ∧ ∃ m, w1 = w.drewN m) (fun i _ => (intOf i + 1).toNat)
 case atStart => exact ⟨n, by omega, rfl, by rw [List.drop_of_length_le (by rw [lx.out]; omega), List.drop_of_length_le (by rw [ly.out]; omega)], 0, rfl⟩
 case round =>
  obtain ⟨k, hk, rfl, hdrop, m, rfl⟩ := hrel;have HD := Lib.hid hdrop; clear hdrop;by_cases hlt : 0 < k
  ·obtain ⟨j, rfl⟩ : ∃ j, k = j + 1 := ⟨k - 1, by omega⟩
   have jx : j < xs.length := (by rw [lx.out]; omega);have jy : j < ys.length := (by rw [ly.out]; omega);obtain ⟨b, o, rfl, hb, hcx⟩ := rx.at_ jx;obtain ⟨b2, o2, rfl, hb', hcy⟩ := ry.at_ jy;rw [show ((j + 1 : Nat) : Int) - 1 = (j : Int) from by omega];have HX := Lib.hid (List.getElem?_eq_getElem jx);have HY := Lib.hid (List.getElem?_eq_getElem jy);generalize xs[j] = x at *
   generalize ys[j] = y at *
   clear jx jy hb hb';rcases Nat.lt_trichotomy x y with h | h | h
   ·go_wp2_with fail
    go_quiet (fail)
    go_wp2_with fail
    go_ret
    exact ⟨by rw [fQ (kE wx.1 HD.out HX.out HY.out h)]; rfl, (by repeat (first | exact Q.refl _ | refine Q.drewN ?_ _))⟩
   ·subst h;go_wp2_with fail
    go_quiet (fail)
    go_wp2_with fail
    go_quiet (fail)
    go_wp2_with fail
    refine ⟨⟨j, by omega, rfl, ?_, _, rfl⟩, by simp [intOf]⟩;obtain ⟨jx, ex⟩ := List.getElem?_eq_some_iff.1 HX.out;obtain ⟨jy, ey⟩ := List.getElem?_eq_some_iff.1 HY.out;rw [List.drop_eq_getElem_cons jx, List.drop_eq_getElem_cons jy, ex, ey, HD.out]
   ·go_wp2_with fail
    go_quiet (fail)
    go_wp2_with fail
    go_quiet (fail)
    go_wp2_with fail
    go_ret
    exact ⟨by rw [gT (kE wy.1 HD.out.symm HY.out HX.out h)]; rfl, (by repeat (first | exact Q.refl _ | refine Q.drewN ?_ _))⟩
  ·obtain rfl : k = 0 := (by omega);rw [show ((0 : Nat) : Int) - 1 = -1 from by omega];go_wp2_with fail
   go_ret
   have e : xs = ys := (by simpa using HD.out);exact ⟨by rw [e, cmp_eq]; rfl, (by repeat (first | exact Q.refl _ | refine Q.drewN ?_ _))⟩
theorem aZ (x y : Value) (M N : Nat) (w : World) (hx : Nm w x M) (hy : Nm w y N) (hM : dg W64 M ≤ LIM) (hN : dg W64 N ≤ LIM) :
  Calls Tryz.prog 148 #[x, y] w fun e w' => e = .returned (.int .i64 (cmp M N)) ∧ Q w w' := by
 obtain ⟨A, c, xs, rfl, hc, rx, wx, rfl⟩ := hx;obtain ⟨B, d, ys, rfl, hd, ry, wy, rfl⟩ := hy;rw [← wx.len aB, aA] at hM;rw [← wy.len aB, aA] at hN;rcases Nat.lt_trichotomy xs.length ys.length with hlt | heq | hgt
 ·have h := Wf.len_lt (b := W64) (by decide) wx.1 wy.2 hlt;rw [fQ h];clear h;go_enter Tryz.func148, Tryz.ntmps148
  go_wp2_with fail
  go_ret
  exact ⟨rfl, Q.refl _⟩
 ·obtain ⟨n, hn⟩ : ∃ n, xs.length = n := ⟨_, rfl⟩
  have hn2 : ys.length = n := (by omega);rw [hn, hn2];exact zB A B n c d xs ys w hn hn2 (by omega) rx ry wx wy
 ·have h := Wf.len_lt (b := W64) (by decide) wy.1 wx.2 hgt;rw [gT h];clear h;go_enter Tryz.func148, Tryz.ntmps148
  go_wp2_with fail
  go_ret
  exact ⟨rfl, Q.refl _⟩
theorem vK (x : Value) (N : Nat) (w : World) (hx : Nm w x N) (hN : dg W64 N ≤ LIM) : Calls Tryz.prog 211 #[x] w (fU N w) := by
 obtain ⟨A, c, xs, rfl, hc, rx, wx, rfl⟩ := hx;rw [← wx.len aB] at hN;by_cases h0 : xs.length = 0
 ·obtain rfl : xs = [] := List.eq_nil_of_length_eq_zero h0;simp only [List.length_nil];clear h0;go_enter Tryz.func211, Tryz.ntmps211
  go_wp2_with fail
  go_ret
  exact ⟨_, rfl, Nm.zero _ _, Q.refl _, Nw.nil⟩
 ·have h1 : ((xs.length : Int) == 0) = false := beq_eq_false_iff_ne.2 (by omega);have hmk := aCd xs.length (xs.length : Int) rfl hN;rw [aA] at hN;have hb : Blk .u64 (w.alloc (.cells (zs .u64 xs.length) 140)) w.heap.size 140 (List.replicate xs.length 0) := Blk.made _ _ _;have rx1 : Rw (w.alloc (.cells (zs .u64 xs.length) 140)) A xs := rx.q ((Q.refl _).alloc _);clear h0;go_enter Tryz.func211, Tryz.ntmps211
  go_wp2_with (with_reducible refine fM rfl _ _ _ _ rfl 140 Tryz.underlying23 (by kernel_rfl) _ _ _ _ _ _ rfl rfl w.heap.size 0 140 (List.replicate xs.length 0) xs xs.length hb rx1 rfl (by omega) (fun _ => rfl) (by simp) ?_; intro w2 hb2 hg2)
  go_ret
  have e : (List.replicate xs.length 0).take 0 ++ xs.take xs.length ++ (List.replicate xs.length 0).drop (0 + xs.length) = xs := (by simp);rw [e] at hb2;refine ⟨_, rfl, Nm.of_rw (Rw.of_blk hb2) (Nat.le_refl _) (Nat.le_refl _) (by rw [List.take_length]; exact wx.2) wx.1 (by rw [List.take_length]), Q.gr ((Q.refl _).alloc _) hg2 (Nat.le_refl _), Nw.at_ (Nat.le_refl _)⟩
theorem qH (x y : Value) (M N : Nat) (w : World) (hx : Nm w x M) (hy : Nm w y N) (hM : dg W64 M + 1 ≤ LIM) (hN : dg W64 N + 1 ≤ LIM) :
  Calls Tryz.prog 172 #[x, y] w (fU (M + N) w) := by
 have hlen : dg W64 N ≤ dg W64 M ∨ dg W64 M < dg W64 N := by omega
 rcases hlen with hlen | hlen
 case' inl =>
  obtain ⟨A, c, xs, rfl, hc, rx, wx, rfl⟩ := hx;obtain ⟨B, d, ys, rfl, hd, ry, wy, rfl⟩ := hy;rw [← wx.len aB, ← wy.len aB] at hlen;rw [← wx.len aB] at hM;rw [← wy.len aB] at hN
 case' inr =>
  obtain ⟨B, d, ys, rfl, hd, ry, wy, rfl⟩ := hx;obtain ⟨A, c, xs, rfl, hc, rx, wx, rfl⟩ := hy;rw [← wx.len aB, ← wy.len aB] at hlen;rw [← wy.len aB] at hM;rw [← wx.len aB] at hN;rw [Nat.add_comm (vl W64 ys)]
 all_goals
  have hmk := iH (xs.length + 1) ((xs.length : Int) + 1) rfl (by omega);rw [aA] at hM hN;have hq1 : Q w (w.alloc (.cells (zs .u64 (xs.length + 1)) 140)) := (Q.refl _).alloc _;go_enter Tryz.func172, Tryz.ntmps172
  go_wp2_with fail
  refine (oQ _ A B (xs.length + 1) (xs.length + 1) xs.length c ys.length d w.heap.size 140 0 xs ys (List.replicate (xs.length + 1) 0) _ (Blk.made _ _ _) rfl rfl (by omega) (by simp) (fun _ => rfl) (by omega) (Nat.le_refl _) hc hd (by omega)
   (Src.old rx hq1 (Nat.le_refl _)) (Src.old ry hq1 (Nat.le_refl _)) wx.1 wy.1).mono ?_
  rintro e w1 ⟨o, cy, rfl, hcy, hol, hod, hv, hb1, hg1⟩;have e1 : (List.replicate (xs.length + 1) 0).take 0 ++ o ++ (List.replicate (xs.length + 1) 0).drop (0 + xs.length) = o ++ [0] := (by simp);rw [e1] at hb1;have hln : (o ++ [0]).length = xs.length + 1 := (by rw [List.length_append, hol]; rfl);obtain ⟨old, hcell⟩ := hb1.ex (i := xs.length) (by rw [hln]; omega);have hfz := hb1.frozen xs.length;have HV := Lib.hid hv; have HOL := Lib.hid hol; have HLN := Lib.hid hln;clear hv hol hln hmk;go_wp2_with fail
  have hb2 := hb1.put xs.length cy (e := (cy : Int)) rfl;have e2 : (o ++ [0]).set xs.length cy = o ++ [cy] := by
   rw [List.set_append, if_neg (by rw [HOL.out]; omega), HOL.out, Nat.sub_self]; rfl
  rw [e2] at hb2;have hod2 : ∀ d ∈ o ++ [cy], d < W64 := by
   intro d hd;rcases List.mem_append.1 hd with hd | hd
   ·exact hod d hd
   ·simp at hd; subst hd; rw [aU]; omega
  have hln2 : (o ++ [cy]).length = xs.length + 1 := (by rw [List.length_append, HOL.out]; rfl);refine (fH _ _ _ (o ++ [cy]) _ hln2 (Nat.le_refl _) (by omega) (Rw.of_blk hb2) hod2).mono ?_;rintro e w2 ⟨v, rfl, hnm, hnw, rfl⟩;rw [jA, HOL.out, HV.out] at hnm;go_wp2_with fail
  go_ret
  exact ⟨_, rfl, hnm, (Q.gr hq1 hg1 (Nat.le_refl _)).setCell (Nat.le_refl _) _, hnw _ (Nw.at_ (Nat.le_refl _))⟩
theorem rJ (x y : Value) (M N : Nat) (w : World) (hx : Nm w x M) (hy : Nm w y N) (hle : N ≤ M) (hM : dg W64 M ≤ LIM) :
  Calls Tryz.prog 171 #[x, y] w (fU (M - N) w) := by
 obtain ⟨A, c, xs, rfl, hc, rx, wx, rfl⟩ := hx;obtain ⟨B, d, ys, rfl, hd, ry, wy, rfl⟩ := hy;have hlen := Wf.len_le (by decide) wx wy hle;rw [← wx.len aB] at hM;have hmk := iH xs.length (xs.length : Int) rfl hM;rw [aA] at hM;have hq1 : Q w (w.alloc (.cells (zs .u64 xs.length) 140)) := (Q.refl _).alloc _;go_enter Tryz.func171, Tryz.ntmps171
 go_wp2_with fail
 refine (aBk _ A B xs.length xs.length xs.length c ys.length d w.heap.size 140 0 xs ys (List.replicate xs.length 0) _ (Blk.made _ _ _) rfl rfl hlen (by simp) (fun _ => rfl) (Nat.le_refl _) (Nat.le_refl _) hc hd (by omega)
  (Src.old rx hq1 (Nat.le_refl _)) (Src.old ry hq1 (Nat.le_refl _)) wx.1 wy.1).mono ?_
 rintro e w1 ⟨o, cy, rfl, hcy, hol, hod, hv, hb1, hg1⟩;have e1 : (List.replicate xs.length 0).take 0 ++ o ++ (List.replicate xs.length 0).drop (0 + xs.length) = o := by simp
 rw [e1] at hb1;have hfin := tQ hod hol hle hv;have HF := Lib.hid hfin; have HOL := Lib.hid hol;clear hv hol hmk hfin;go_wp2_with fail
 refine (fH _ _ _ o _ HOL.out (Nat.le_refl _) (by omega) (Rw.of_blk hb1) hod).mono ?_;rintro e w2 ⟨v, rfl, hnm, hnw, rfl⟩;rw [HF.out] at hnm;go_wp2_with fail
 go_ret
 exact ⟨_, rfl, hnm, Q.gr hq1 hg1 (Nat.le_refl _), hnw _ (Nw.at_ (Nat.le_refl _))⟩
end Go.Proofs.YtgpacgadpnpjjaaGreatDoor
