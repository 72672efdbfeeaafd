/- Laws of values (P1.7, P1.8), each for every three strings; no condition. Part of the proof: texts Wa2 Wa6 Wa5. -/
import Derived.BigQuiet
import Derived.Deep.DeepMust
import Derived.Deep.QuietTactic
import Derived.WalkKit
import Derived.WalkLawsBesides
import Derived.WalkSpells
import Derived.Test.YtimdddpfoagbjaaGreatDoorQa01
import Derived.Test.YtimdddpfoagbjaaGreatDoorQa05
import Derived.Test.YtimdddpfoagbjaaGreatDoorQa06
namespace Go.Proofs.YtimdddpfoagbjaaGreatDoor
open Go.RowKit
open Ma Me
set_option maxRecDepth 100000 in
set_option maxHeartbeats 1000000 in
theorem carried_addTail (Az Ax Ay : Option Addr) (nz cz nx cx n cy gz t off c0 : Nat) (xs ys cs : List Nat) (w : World) (g : Nat → Nat → Nat → Nat × Nat) (Pc : Nat → Prop)
    (hg : ∀ x y c, x < W64 → y < W64 → Pc c → (g x y c).1 < W64 ∧ Pc (g x y c).2) (hc0 : Pc c0)
    (H : ∀ (x y c : Nat) (w1 : World), x < W64 → y < W64 → Pc c → w.grownBy w1 (some gz) → Calls Tryz.prog 247 #[.int .u64 (x : Int), .int .u64 (y : Int), .int .u64 (c : Int)] w1 fun e w' => e = .returned (.tuple #[.int .u64 ((g x y c).1 : Int), .int .u64 ((g x y c).2 : Int)]) ∧ Q w1 w')
    (hb : Blk .u64 w gz t cs) (hoff : off + n ≤ cs.length) (hz : 0 < n → Az = some ⟨gz, off, none⟩) (hnz : n ≤ cz) (hnx : n ≤ cx) (hny : n ≤ cy) (hn : n ≤ 1099511627776)
    (lx : xs.length = n) (ly : ys.length = n) (sx : Src w gz off Ax xs) (sy : Src w gz off Ay ys) (hx : ∀ d ∈ xs, d < W64) (hy : ∀ d ∈ ys, d < W64) :
    Calls Tryz.prog 200 #[.slice Az nz cz, .slice Ax nx cx, .slice Ay n cy, .int .u64 (c0 : Int), .func (.func 247) #[] #[]] w
      fun e w' => e = .returned (.int .u64 ((runC g xs ys c0).2 : Int)) ∧ Blk .u64 w' gz t (cs.take off ++ (runC g xs ys c0).1 ++ cs.drop (off + n)) ∧ w.grownBy w' (some gz) := by
  have LX := Lib.hid lx; have LY := Lib.hid ly; clear lx ly
  have HH := Lib.hid H; clear H
  go_enter Tryz.func200, Tryz.ntmps200
  go_wp2_with fail
  go_quiet (fail)
  go_wp2_with fail
  go_loopw [3, 23] (fun cv iv w1 => ∃ k : Nat, k ≤ n ∧ iv = .int .i64 (k : Int) ∧ cv = .int .u64 ((runC g (xs.take k) (ys.take k) c0).2 : Int) ∧ Pc (runC g (xs.take k) (ys.take k) c0).2 ∧
      Part w w1 gz t off k cs (runC g (xs.take k) (ys.take k) c0).1) (fun _ iv _ => n - (intOf iv).toNat)
  case atStart => exact ⟨0, by omega, rfl, rfl, hc0, ⟨by rw [List.take_zero, List.take_zero, runC_nil, splice_zero]; exact hb, Gr.drewN (Gr.refl _ _) _⟩⟩
  case round =>
    obtain ⟨k, hk, rfl, rfl, hpc, hp⟩ := hrel
    by_cases hlt : k < n
    · have hol : (runC g (xs.take k) (ys.take k) c0).1.length = k := by
        rw [runC_length _ _ _ _ (by rw [List.length_take, List.length_take, LX.out, LY.out]), List.length_take, LX.out]; omega
      obtain ⟨bx, qx, rfl, hcx⟩ := sx.at_ hb hp hol hoff LX.out hlt
      obtain ⟨by_, qy, rfl, hcy⟩ := sy.at_ hb hp hol hoff LY.out hlt
      obtain rfl := hz (by omega)
      have hkx : k < xs.length := by rw [LX.out]; exact hlt
      have hky : k < ys.length := by rw [LY.out]; exact hlt
      have hst := runC_take g c0 hkx hky
      have bx' : xs[k] < W64 := hx _ (List.getElem_mem _)
      have by' : ys[k] < W64 := hy _ (List.getElem_mem _)
      generalize xs[k] = x at *
      generalize ys[k] = y at *
      have HST := Lib.hid hst; clear hst
      have HOL := Lib.hid hol; clear hol
      have hcb := hp.blk
      have hkc : off + k < (cs.take off ++ (runC g (xs.take k) (ys.take k) c0).1 ++ cs.drop (off + k)).length := by
        rw [splice_length HOL.out (by omega)]; omega
      have HP := Lib.hid hp; clear hp hcb
      have HKC := Lib.hid hkc; clear hkc
      have hgs := hg x y _ bx' by' hpc
      generalize hcc : (runC g (xs.take k) (ys.take k) c0).2 = cc at *
      have HCC := Lib.hid hcc; clear hcc
      go_wp2_with fail
      refine (HH.out x y cc _ bx' by' hpc HP.out.gr).mono ?_
      rintro e w2 ⟨rfl, hq2⟩
      have hb2 := HP.out.blk.q hq2
      have hcell := hb2.cell HKC.out
      have hfz := hb2.frozen (off + k)
      generalize (cs.take off ++ (runC g (xs.take k) (ys.take k) c0).1 ++ cs.drop (off + k))[off + k]'HKC.out = old at *
      go_wp2_with fail
      have hb3 := hb2.set_ (off + k) (g x y cc).1
      rw [splice_set HOL.out (by omega)] at hb3
      refine ⟨⟨k + 1, by omega, by go_num, ?_, ?_, ⟨?_, ?_⟩⟩, by simp [intOf]; omega⟩
      · rw [HST.out]
      · rw [HST.out]; exact hgs.2
      · rw [HST.out]; exact hb3
      · exact Gr.setCell (Gr.q HP.out.gr hq2) _ _
    · obtain rfl : k = n := by omega
      go_wp2_with fail
      go_ret
      rw [List.take_of_length_le (by rw [LX.out]; omega), List.take_of_length_le (by rw [LY.out]; omega)] at *
      exact ⟨rfl, hp.blk, hp.gr⟩
set_option maxRecDepth 100000 in
set_option maxHeartbeats 1000000 in
theorem carried_subTail (Az Ax Ay : Option Addr) (nz cz nx cx n cy gz t off c0 : Nat) (xs ys cs : List Nat) (w : World) (g : Nat → Nat → Nat → Nat × Nat) (Pc : Nat → Prop)
    (hg : ∀ x y c, x < W64 → y < W64 → Pc c → (g x y c).1 < W64 ∧ Pc (g x y c).2) (hc0 : Pc c0)
    (H : ∀ (x y c : Nat) (w1 : World), x < W64 → y < W64 → Pc c → w.grownBy w1 (some gz) → Calls Tryz.prog 249 #[.int .u64 (x : Int), .int .u64 (y : Int), .int .u64 (c : Int)] w1 fun e w' => e = .returned (.tuple #[.int .u64 ((g x y c).1 : Int), .int .u64 ((g x y c).2 : Int)]) ∧ Q w1 w')
    (hb : Blk .u64 w gz t cs) (hoff : off + n ≤ cs.length) (hz : 0 < n → Az = some ⟨gz, off, none⟩) (hnz : n ≤ cz) (hnx : n ≤ cx) (hny : n ≤ cy) (hn : n ≤ 1099511627776)
    (lx : xs.length = n) (ly : ys.length = n) (sx : Src w gz off Ax xs) (sy : Src w gz off Ay ys) (hx : ∀ d ∈ xs, d < W64) (hy : ∀ d ∈ ys, d < W64) :
    Calls Tryz.prog 200 #[.slice Az nz cz, .slice Ax nx cx, .slice Ay n cy, .int .u64 (c0 : Int), .func (.func 249) #[] #[]] w
      fun e w' => e = .returned (.int .u64 ((runC g xs ys c0).2 : Int)) ∧ Blk .u64 w' gz t (cs.take off ++ (runC g xs ys c0).1 ++ cs.drop (off + n)) ∧ w.grownBy w' (some gz) := by
  have LX := Lib.hid lx; have LY := Lib.hid ly; clear lx ly
  have HH := Lib.hid H; clear H
  go_enter Tryz.func200, Tryz.ntmps200
  go_wp2_with fail
  go_quiet (fail)
  go_wp2_with fail
  go_loopw [3, 23] (fun cv iv w1 => ∃ k : Nat, k ≤ n ∧ iv = .int .i64 (k : Int) ∧ cv = .int .u64 ((runC g (xs.take k) (ys.take k) c0).2 : Int) ∧ Pc (runC g (xs.take k) (ys.take k) c0).2 ∧
      Part w w1 gz t off k cs (runC g (xs.take k) (ys.take k) c0).1) (fun _ iv _ => n - (intOf iv).toNat)
  case atStart => exact ⟨0, by omega, rfl, rfl, hc0, ⟨by rw [List.take_zero, List.take_zero, runC_nil, splice_zero]; exact hb, Gr.drewN (Gr.refl _ _) _⟩⟩
  case round =>
    obtain ⟨k, hk, rfl, rfl, hpc, hp⟩ := hrel
    by_cases hlt : k < n
    · have hol : (runC g (xs.take k) (ys.take k) c0).1.length = k := by
        rw [runC_length _ _ _ _ (by rw [List.length_take, List.length_take, LX.out, LY.out]), List.length_take, LX.out]; omega
      obtain ⟨bx, qx, rfl, hcx⟩ := sx.at_ hb hp hol hoff LX.out hlt
      obtain ⟨by_, qy, rfl, hcy⟩ := sy.at_ hb hp hol hoff LY.out hlt
      obtain rfl := hz (by omega)
      have hkx : k < xs.length := by rw [LX.out]; exact hlt
      have hky : k < ys.length := by rw [LY.out]; exact hlt
      have hst := runC_take g c0 hkx hky
      have bx' : xs[k] < W64 := hx _ (List.getElem_mem _)
      have by' : ys[k] < W64 := hy _ (List.getElem_mem _)
      generalize xs[k] = x at *
      generalize ys[k] = y at *
      have HST := Lib.hid hst; clear hst
      have HOL := Lib.hid hol; clear hol
      have hcb := hp.blk
      have hkc : off + k < (cs.take off ++ (runC g (xs.take k) (ys.take k) c0).1 ++ cs.drop (off + k)).length := by
        rw [splice_length HOL.out (by omega)]; omega
      have HP := Lib.hid hp; clear hp hcb
      have HKC := Lib.hid hkc; clear hkc
      have hgs := hg x y _ bx' by' hpc
      generalize hcc : (runC g (xs.take k) (ys.take k) c0).2 = cc at *
      have HCC := Lib.hid hcc; clear hcc
      go_wp2_with fail
      refine (HH.out x y cc _ bx' by' hpc HP.out.gr).mono ?_
      rintro e w2 ⟨rfl, hq2⟩
      have hb2 := HP.out.blk.q hq2
      have hcell := hb2.cell HKC.out
      have hfz := hb2.frozen (off + k)
      generalize (cs.take off ++ (runC g (xs.take k) (ys.take k) c0).1 ++ cs.drop (off + k))[off + k]'HKC.out = old at *
      go_wp2_with fail
      have hb3 := hb2.set_ (off + k) (g x y cc).1
      rw [splice_set HOL.out (by omega)] at hb3
      refine ⟨⟨k + 1, by omega, by go_num, ?_, ?_, ⟨?_, ?_⟩⟩, by simp [intOf]; omega⟩
      · rw [HST.out]
      · rw [HST.out]; exact hgs.2
      · rw [HST.out]; exact hb3
      · exact Gr.setCell (Gr.q HP.out.gr hq2) _ _
    · obtain rfl : k = n := by omega
      go_wp2_with fail
      go_ret
      rw [List.take_of_length_le (by rw [LX.out]; omega), List.take_of_length_le (by rw [LY.out]; omega)] at *
      exact ⟨rfl, hp.blk, hp.gr⟩
set_option maxRecDepth 100000 in
set_option maxHeartbeats 1000000 in
theorem carried_scale (Az Ax Ay : Option Addr) (nz cz nx cx n cy gz t off c0 : Nat) (xs ys cs : List Nat) (w : World) (p : Value) (g : Nat → Nat → Nat → Nat × Nat) (Pc : Nat → Prop)
    (hg : ∀ x y c, x < W64 → y < W64 → Pc c → (g x y c).1 < W64 ∧ Pc (g x y c).2) (hc0 : Pc c0)
    (H : ∀ (x y c : Nat) (w1 : World), x < W64 → y < W64 → Pc c → w.grownBy w1 (some gz) → Calls Tryz.prog 201 #[.int .u64 (x : Int), .int .u64 (y : Int), .int .u64 (c : Int), p] w1 fun e w' => e = .returned (.tuple #[.int .u64 ((g x y c).1 : Int), .int .u64 ((g x y c).2 : Int)]) ∧ Q w1 w')
    (hb : Blk .u64 w gz t cs) (hoff : off + n ≤ cs.length) (hz : 0 < n → Az = some ⟨gz, off, none⟩) (hnz : n ≤ cz) (hnx : n ≤ cx) (hny : n ≤ cy) (hn : n ≤ 1099511627776)
    (lx : xs.length = n) (ly : ys.length = n) (sx : Src w gz off Ax xs) (sy : Src w gz off Ay ys) (hx : ∀ d ∈ xs, d < W64) (hy : ∀ d ∈ ys, d < W64) :
    Calls Tryz.prog 200 #[.slice Az nz cz, .slice Ax nx cx, .slice Ay n cy, .int .u64 (c0 : Int), .func (.func 201) #[] #[p]] w
      fun e w' => e = .returned (.int .u64 ((runC g xs ys c0).2 : Int)) ∧ Blk .u64 w' gz t (cs.take off ++ (runC g xs ys c0).1 ++ cs.drop (off + n)) ∧ w.grownBy w' (some gz) := by
  have LX := Lib.hid lx; have LY := Lib.hid ly; clear lx ly
  have HH := Lib.hid H; clear H
  go_enter Tryz.func200, Tryz.ntmps200
  go_wp2_with fail
  go_quiet (fail)
  go_wp2_with fail
  go_loopw [3, 23] (fun cv iv w1 => ∃ k : Nat, k ≤ n ∧ iv = .int .i64 (k : Int) ∧ cv = .int .u64 ((runC g (xs.take k) (ys.take k) c0).2 : Int) ∧ Pc (runC g (xs.take k) (ys.take k) c0).2 ∧
      Part w w1 gz t off k cs (runC g (xs.take k) (ys.take k) c0).1) (fun _ iv _ => n - (intOf iv).toNat)
  case atStart => exact ⟨0, by omega, rfl, rfl, hc0, ⟨by rw [List.take_zero, List.take_zero, runC_nil, splice_zero]; exact hb, Gr.drewN (Gr.refl _ _) _⟩⟩
  case round =>
    obtain ⟨k, hk, rfl, rfl, hpc, hp⟩ := hrel
    by_cases hlt : k < n
    · have hol : (runC g (xs.take k) (ys.take k) c0).1.length = k := by
        rw [runC_length _ _ _ _ (by rw [List.length_take, List.length_take, LX.out, LY.out]), List.length_take, LX.out]; omega
      obtain ⟨bx, qx, rfl, hcx⟩ := sx.at_ hb hp hol hoff LX.out hlt
      obtain ⟨by_, qy, rfl, hcy⟩ := sy.at_ hb hp hol hoff LY.out hlt
      obtain rfl := hz (by omega)
      have hkx : k < xs.length := by rw [LX.out]; exact hlt
      have hky : k < ys.length := by rw [LY.out]; exact hlt
      have hst := runC_take g c0 hkx hky
      have bx' : xs[k] < W64 := hx _ (List.getElem_mem _)
      have by' : ys[k] < W64 := hy _ (List.getElem_mem _)
      generalize xs[k] = x at *
      generalize ys[k] = y at *
      have HST := Lib.hid hst; clear hst
      have HOL := Lib.hid hol; clear hol
      have hcb := hp.blk
      have hkc : off + k < (cs.take off ++ (runC g (xs.take k) (ys.take k) c0).1 ++ cs.drop (off + k)).length := by
        rw [splice_length HOL.out (by omega)]; omega
      have HP := Lib.hid hp; clear hp hcb
      have HKC := Lib.hid hkc; clear hkc
      have hgs := hg x y _ bx' by' hpc
      generalize hcc : (runC g (xs.take k) (ys.take k) c0).2 = cc at *
      have HCC := Lib.hid hcc; clear hcc
      go_wp2_with fail
      refine (HH.out x y cc _ bx' by' hpc HP.out.gr).mono ?_
      rintro e w2 ⟨rfl, hq2⟩
      have hb2 := HP.out.blk.q hq2
      have hcell := hb2.cell HKC.out
      have hfz := hb2.frozen (off + k)
      generalize (cs.take off ++ (runC g (xs.take k) (ys.take k) c0).1 ++ cs.drop (off + k))[off + k]'HKC.out = old at *
      go_wp2_with fail
      have hb3 := hb2.set_ (off + k) (g x y cc).1
      rw [splice_set HOL.out (by omega)] at hb3
      refine ⟨⟨k + 1, by omega, by go_num, ?_, ?_, ⟨?_, ?_⟩⟩, by simp [intOf]; omega⟩
      · rw [HST.out]
      · rw [HST.out]; exact hgs.2
      · rw [HST.out]; exact hb3
      · exact Gr.setCell (Gr.q HP.out.gr hq2) _ _
    · obtain rfl : k = n := by omega
      go_wp2_with fail
      go_ret
      rw [List.take_of_length_le (by rw [LX.out]; omega), List.take_of_length_le (by rw [LY.out]; omega)] at *
      exact ⟨rfl, hp.blk, hp.gr⟩
set_option maxRecDepth 100000 in
set_option maxHeartbeats 1000000 in
theorem carried_left (Az Ax Ay : Option Addr) (nz cz nx cx n cy gz t off c0 : Nat) (xs ys cs : List Nat) (w : World) (p : Value) (g : Nat → Nat → Nat → Nat × Nat) (Pc : Nat → Prop)
    (hg : ∀ x y c, x < W64 → y < W64 → Pc c → (g x y c).1 < W64 ∧ Pc (g x y c).2) (hc0 : Pc c0)
    (H : ∀ (x y c : Nat) (w1 : World), x < W64 → y < W64 → Pc c → w.grownBy w1 (some gz) → Calls Tryz.prog 204 #[.int .u64 (x : Int), .int .u64 (y : Int), .int .u64 (c : Int), p] w1 fun e w' => e = .returned (.tuple #[.int .u64 ((g x y c).1 : Int), .int .u64 ((g x y c).2 : Int)]) ∧ Q w1 w')
    (hb : Blk .u64 w gz t cs) (hoff : off + n ≤ cs.length) (hz : 0 < n → Az = some ⟨gz, off, none⟩) (hnz : n ≤ cz) (hnx : n ≤ cx) (hny : n ≤ cy) (hn : n ≤ 1099511627776)
    (lx : xs.length = n) (ly : ys.length = n) (sx : Src w gz off Ax xs) (sy : Src w gz off Ay ys) (hx : ∀ d ∈ xs, d < W64) (hy : ∀ d ∈ ys, d < W64) :
    Calls Tryz.prog 200 #[.slice Az nz cz, .slice Ax nx cx, .slice Ay n cy, .int .u64 (c0 : Int), .func (.func 204) #[] #[p]] w
      fun e w' => e = .returned (.int .u64 ((runC g xs ys c0).2 : Int)) ∧ Blk .u64 w' gz t (cs.take off ++ (runC g xs ys c0).1 ++ cs.drop (off + n)) ∧ w.grownBy w' (some gz) := by
  have LX := Lib.hid lx; have LY := Lib.hid ly; clear lx ly
  have HH := Lib.hid H; clear H
  go_enter Tryz.func200, Tryz.ntmps200
  go_wp2_with fail
  go_quiet (fail)
  go_wp2_with fail
  go_loopw [3, 23] (fun cv iv w1 => ∃ k : Nat, k ≤ n ∧ iv = .int .i64 (k : Int) ∧ cv = .int .u64 ((runC g (xs.take k) (ys.take k) c0).2 : Int) ∧ Pc (runC g (xs.take k) (ys.take k) c0).2 ∧
      Part w w1 gz t off k cs (runC g (xs.take k) (ys.take k) c0).1) (fun _ iv _ => n - (intOf iv).toNat)
  case atStart => exact ⟨0, by omega, rfl, rfl, hc0, ⟨by rw [List.take_zero, List.take_zero, runC_nil, splice_zero]; exact hb, Gr.drewN (Gr.refl _ _) _⟩⟩
  case round =>
    obtain ⟨k, hk, rfl, rfl, hpc, hp⟩ := hrel
    by_cases hlt : k < n
    · have hol : (runC g (xs.take k) (ys.take k) c0).1.length = k := by
        rw [runC_length _ _ _ _ (by rw [List.length_take, List.length_take, LX.out, LY.out]), List.length_take, LX.out]; omega
      obtain ⟨bx, qx, rfl, hcx⟩ := sx.at_ hb hp hol hoff LX.out hlt
      obtain ⟨by_, qy, rfl, hcy⟩ := sy.at_ hb hp hol hoff LY.out hlt
      obtain rfl := hz (by omega)
      have hkx : k < xs.length := by rw [LX.out]; exact hlt
      have hky : k < ys.length := by rw [LY.out]; exact hlt
      have hst := runC_take g c0 hkx hky
      have bx' : xs[k] < W64 := hx _ (List.getElem_mem _)
      have by' : ys[k] < W64 := hy _ (List.getElem_mem _)
      generalize xs[k] = x at *
      generalize ys[k] = y at *
      have HST := Lib.hid hst; clear hst
      have HOL := Lib.hid hol; clear hol
      have hcb := hp.blk
      have hkc : off + k < (cs.take off ++ (runC g (xs.take k) (ys.take k) c0).1 ++ cs.drop (off + k)).length := by
        rw [splice_length HOL.out (by omega)]; omega
      have HP := Lib.hid hp; clear hp hcb
      have HKC := Lib.hid hkc; clear hkc
      have hgs := hg x y _ bx' by' hpc
      generalize hcc : (runC g (xs.take k) (ys.take k) c0).2 = cc at *
      have HCC := Lib.hid hcc; clear hcc
      go_wp2_with fail
      refine (HH.out x y cc _ bx' by' hpc HP.out.gr).mono ?_
      rintro e w2 ⟨rfl, hq2⟩
      have hb2 := HP.out.blk.q hq2
      have hcell := hb2.cell HKC.out
      have hfz := hb2.frozen (off + k)
      generalize (cs.take off ++ (runC g (xs.take k) (ys.take k) c0).1 ++ cs.drop (off + k))[off + k]'HKC.out = old at *
      go_wp2_with fail
      have hb3 := hb2.set_ (off + k) (g x y cc).1
      rw [splice_set HOL.out (by omega)] at hb3
      refine ⟨⟨k + 1, by omega, by go_num, ?_, ?_, ⟨?_, ?_⟩⟩, by simp [intOf]; omega⟩
      · rw [HST.out]
      · rw [HST.out]; exact hgs.2
      · rw [HST.out]; exact hb3
      · exact Gr.setCell (Gr.q HP.out.gr hq2) _ _
    · obtain rfl : k = n := by omega
      go_wp2_with fail
      go_ret
      rw [List.take_of_length_le (by rw [LX.out]; omega), List.take_of_length_le (by rw [LY.out]; omega)] at *
      exact ⟨rfl, hp.blk, hp.gr⟩
set_option maxRecDepth 100000 in
set_option maxHeartbeats 1000000 in
theorem carried_right (Az Ax Ay : Option Addr) (nz cz nx cx n cy gz t off c0 : Nat) (xs ys cs : List Nat) (w : World) (p : Value) (g : Nat → Nat → Nat → Nat × Nat) (Pc : Nat → Prop)
    (hg : ∀ x y c, x < W64 → y < W64 → Pc c → (g x y c).1 < W64 ∧ Pc (g x y c).2) (hc0 : Pc c0)
    (H : ∀ (x y c : Nat) (w1 : World), x < W64 → y < W64 → Pc c → w.grownBy w1 (some gz) → Calls Tryz.prog 206 #[.int .u64 (x : Int), .int .u64 (y : Int), .int .u64 (c : Int), p] w1 fun e w' => e = .returned (.tuple #[.int .u64 ((g x y c).1 : Int), .int .u64 ((g x y c).2 : Int)]) ∧ Q w1 w')
    (hb : Blk .u64 w gz t cs) (hoff : off + n ≤ cs.length) (hz : 0 < n → Az = some ⟨gz, off, none⟩) (hnz : n ≤ cz) (hnx : n ≤ cx) (hny : n ≤ cy) (hn : n ≤ 1099511627776)
    (lx : xs.length = n) (ly : ys.length = n) (sx : Src w gz off Ax xs) (sy : Src w gz off Ay ys) (hx : ∀ d ∈ xs, d < W64) (hy : ∀ d ∈ ys, d < W64) :
    Calls Tryz.prog 200 #[.slice Az nz cz, .slice Ax nx cx, .slice Ay n cy, .int .u64 (c0 : Int), .func (.func 206) #[] #[p]] w
      fun e w' => e = .returned (.int .u64 ((runC g xs ys c0).2 : Int)) ∧ Blk .u64 w' gz t (cs.take off ++ (runC g xs ys c0).1 ++ cs.drop (off + n)) ∧ w.grownBy w' (some gz) := by
  have LX := Lib.hid lx; have LY := Lib.hid ly; clear lx ly
  have HH := Lib.hid H; clear H
  go_enter Tryz.func200, Tryz.ntmps200
  go_wp2_with fail
  go_quiet (fail)
  go_wp2_with fail
  go_loopw [3, 23] (fun cv iv w1 => ∃ k : Nat, k ≤ n ∧ iv = .int .i64 (k : Int) ∧ cv = .int .u64 ((runC g (xs.take k) (ys.take k) c0).2 : Int) ∧ Pc (runC g (xs.take k) (ys.take k) c0).2 ∧
      Part w w1 gz t off k cs (runC g (xs.take k) (ys.take k) c0).1) (fun _ iv _ => n - (intOf iv).toNat)
  case atStart => exact ⟨0, by omega, rfl, rfl, hc0, ⟨by rw [List.take_zero, List.take_zero, runC_nil, splice_zero]; exact hb, Gr.drewN (Gr.refl _ _) _⟩⟩
  case round =>
    obtain ⟨k, hk, rfl, rfl, hpc, hp⟩ := hrel
    by_cases hlt : k < n
    · have hol : (runC g (xs.take k) (ys.take k) c0).1.length = k := by
        rw [runC_length _ _ _ _ (by rw [List.length_take, List.length_take, LX.out, LY.out]), List.length_take, LX.out]; omega
      obtain ⟨bx, qx, rfl, hcx⟩ := sx.at_ hb hp hol hoff LX.out hlt
      obtain ⟨by_, qy, rfl, hcy⟩ := sy.at_ hb hp hol hoff LY.out hlt
      obtain rfl := hz (by omega)
      have hkx : k < xs.length := by rw [LX.out]; exact hlt
      have hky : k < ys.length := by rw [LY.out]; exact hlt
      have hst := runC_take g c0 hkx hky
      have bx' : xs[k] < W64 := hx _ (List.getElem_mem _)
      have by' : ys[k] < W64 := hy _ (List.getElem_mem _)
      generalize xs[k] = x at *
      generalize ys[k] = y at *
      have HST := Lib.hid hst; clear hst
      have HOL := Lib.hid hol; clear hol
      have hcb := hp.blk
      have hkc : off + k < (cs.take off ++ (runC g (xs.take k) (ys.take k) c0).1 ++ cs.drop (off + k)).length := by
        rw [splice_length HOL.out (by omega)]; omega
      have HP := Lib.hid hp; clear hp hcb
      have HKC := Lib.hid hkc; clear hkc
      have hgs := hg x y _ bx' by' hpc
      generalize hcc : (runC g (xs.take k) (ys.take k) c0).2 = cc at *
      have HCC := Lib.hid hcc; clear hcc
      go_wp2_with fail
      refine (HH.out x y cc _ bx' by' hpc HP.out.gr).mono ?_
      rintro e w2 ⟨rfl, hq2⟩
      have hb2 := HP.out.blk.q hq2
      have hcell := hb2.cell HKC.out
      have hfz := hb2.frozen (off + k)
      generalize (cs.take off ++ (runC g (xs.take k) (ys.take k) c0).1 ++ cs.drop (off + k))[off + k]'HKC.out = old at *
      go_wp2_with fail
      have hb3 := hb2.set_ (off + k) (g x y cc).1
      rw [splice_set HOL.out (by omega)] at hb3
      refine ⟨⟨k + 1, by omega, by go_num, ?_, ?_, ⟨?_, ?_⟩⟩, by simp [intOf]; omega⟩
      · rw [HST.out]
      · rw [HST.out]; exact hgs.2
      · rw [HST.out]; exact hb3
      · exact Gr.setCell (Gr.q HP.out.gr hq2) _ _
    · obtain rfl : k = n := by omega
      go_wp2_with fail
      go_ret
      rw [List.take_of_length_le (by rw [LX.out]; omega), List.take_of_length_le (by rw [LY.out]; omega)] at *
      exact ⟨rfl, hp.blk, hp.gr⟩
set_option maxRecDepth 100000 in
set_option maxHeartbeats 1000000 in
theorem carried_addScaled (Az Ax Ay : Option Addr) (nz cz nx cx n cy gz t off c0 : Nat) (xs ys cs : List Nat) (w : World) (p : Value) (g : Nat → Nat → Nat → Nat × Nat) (Pc : Nat → Prop)
    (hg : ∀ x y c, x < W64 → y < W64 → Pc c → (g x y c).1 < W64 ∧ Pc (g x y c).2) (hc0 : Pc c0)
    (H : ∀ (x y c : Nat) (w1 : World), x < W64 → y < W64 → Pc c → w.grownBy w1 (some gz) → Calls Tryz.prog 246 #[.int .u64 (x : Int), .int .u64 (y : Int), .int .u64 (c : Int), p] w1 fun e w' => e = .returned (.tuple #[.int .u64 ((g x y c).1 : Int), .int .u64 ((g x y c).2 : Int)]) ∧ Q w1 w')
    (hb : Blk .u64 w gz t cs) (hoff : off + n ≤ cs.length) (hz : 0 < n → Az = some ⟨gz, off, none⟩) (hnz : n ≤ cz) (hnx : n ≤ cx) (hny : n ≤ cy) (hn : n ≤ 1099511627776)
    (lx : xs.length = n) (ly : ys.length = n) (sx : Src w gz off Ax xs) (sy : Src w gz off Ay ys) (hx : ∀ d ∈ xs, d < W64) (hy : ∀ d ∈ ys, d < W64) :
    Calls Tryz.prog 200 #[.slice Az nz cz, .slice Ax nx cx, .slice Ay n cy, .int .u64 (c0 : Int), .func (.func 246) #[] #[p]] w
      fun e w' => e = .returned (.int .u64 ((runC g xs ys c0).2 : Int)) ∧ Blk .u64 w' gz t (cs.take off ++ (runC g xs ys c0).1 ++ cs.drop (off + n)) ∧ w.grownBy w' (some gz) := by
  have LX := Lib.hid lx; have LY := Lib.hid ly; clear lx ly
  have HH := Lib.hid H; clear H
  go_enter Tryz.func200, Tryz.ntmps200
  go_wp2_with fail
  go_quiet (fail)
  go_wp2_with fail
  go_loopw [3, 23] (fun cv iv w1 => ∃ k : Nat, k ≤ n ∧ iv = .int .i64 (k : Int) ∧ cv = .int .u64 ((runC g (xs.take k) (ys.take k) c0).2 : Int) ∧ Pc (runC g (xs.take k) (ys.take k) c0).2 ∧
      Part w w1 gz t off k cs (runC g (xs.take k) (ys.take k) c0).1) (fun _ iv _ => n - (intOf iv).toNat)
  case atStart => exact ⟨0, by omega, rfl, rfl, hc0, ⟨by rw [List.take_zero, List.take_zero, runC_nil, splice_zero]; exact hb, Gr.drewN (Gr.refl _ _) _⟩⟩
  case round =>
    obtain ⟨k, hk, rfl, rfl, hpc, hp⟩ := hrel
    by_cases hlt : k < n
    · have hol : (runC g (xs.take k) (ys.take k) c0).1.length = k := by
        rw [runC_length _ _ _ _ (by rw [List.length_take, List.length_take, LX.out, LY.out]), List.length_take, LX.out]; omega
      obtain ⟨bx, qx, rfl, hcx⟩ := sx.at_ hb hp hol hoff LX.out hlt
      obtain ⟨by_, qy, rfl, hcy⟩ := sy.at_ hb hp hol hoff LY.out hlt
      obtain rfl := hz (by omega)
      have hkx : k < xs.length := by rw [LX.out]; exact hlt
      have hky : k < ys.length := by rw [LY.out]; exact hlt
      have hst := runC_take g c0 hkx hky
      have bx' : xs[k] < W64 := hx _ (List.getElem_mem _)
      have by' : ys[k] < W64 := hy _ (List.getElem_mem _)
      generalize xs[k] = x at *
      generalize ys[k] = y at *
      have HST := Lib.hid hst; clear hst
      have HOL := Lib.hid hol; clear hol
      have hcb := hp.blk
      have hkc : off + k < (cs.take off ++ (runC g (xs.take k) (ys.take k) c0).1 ++ cs.drop (off + k)).length := by
        rw [splice_length HOL.out (by omega)]; omega
      have HP := Lib.hid hp; clear hp hcb
      have HKC := Lib.hid hkc; clear hkc
      have hgs := hg x y _ bx' by' hpc
      generalize hcc : (runC g (xs.take k) (ys.take k) c0).2 = cc at *
      have HCC := Lib.hid hcc; clear hcc
      go_wp2_with fail
      refine (HH.out x y cc _ bx' by' hpc HP.out.gr).mono ?_
      rintro e w2 ⟨rfl, hq2⟩
      have hb2 := HP.out.blk.q hq2
      have hcell := hb2.cell HKC.out
      have hfz := hb2.frozen (off + k)
      generalize (cs.take off ++ (runC g (xs.take k) (ys.take k) c0).1 ++ cs.drop (off + k))[off + k]'HKC.out = old at *
      go_wp2_with fail
      have hb3 := hb2.set_ (off + k) (g x y cc).1
      rw [splice_set HOL.out (by omega)] at hb3
      refine ⟨⟨k + 1, by omega, by go_num, ?_, ?_, ⟨?_, ?_⟩⟩, by simp [intOf]; omega⟩
      · rw [HST.out]
      · rw [HST.out]; exact hgs.2
      · rw [HST.out]; exact hb3
      · exact Gr.setCell (Gr.q HP.out.gr hq2) _ _
    · obtain rfl : k = n := by omega
      go_wp2_with fail
      go_ret
      rw [List.take_of_length_le (by rw [LX.out]; omega), List.take_of_length_le (by rw [LY.out]; omega)] at *
      exact ⟨rfl, hp.blk, hp.gr⟩
set_option maxRecDepth 100000 in
set_option maxHeartbeats 1000000 in
theorem carried_subScaled (Az Ax Ay : Option Addr) (nz cz nx cx n cy gz t off c0 : Nat) (xs ys cs : List Nat) (w : World) (p : Value) (g : Nat → Nat → Nat → Nat × Nat) (Pc : Nat → Prop)
    (hg : ∀ x y c, x < W64 → y < W64 → Pc c → (g x y c).1 < W64 ∧ Pc (g x y c).2) (hc0 : Pc c0)
    (H : ∀ (x y c : Nat) (w1 : World), x < W64 → y < W64 → Pc c → w.grownBy w1 (some gz) → Calls Tryz.prog 266 #[.int .u64 (x : Int), .int .u64 (y : Int), .int .u64 (c : Int), p] w1 fun e w' => e = .returned (.tuple #[.int .u64 ((g x y c).1 : Int), .int .u64 ((g x y c).2 : Int)]) ∧ Q w1 w')
    (hb : Blk .u64 w gz t cs) (hoff : off + n ≤ cs.length) (hz : 0 < n → Az = some ⟨gz, off, none⟩) (hnz : n ≤ cz) (hnx : n ≤ cx) (hny : n ≤ cy) (hn : n ≤ 1099511627776)
    (lx : xs.length = n) (ly : ys.length = n) (sx : Src w gz off Ax xs) (sy : Src w gz off Ay ys) (hx : ∀ d ∈ xs, d < W64) (hy : ∀ d ∈ ys, d < W64) :
    Calls Tryz.prog 200 #[.slice Az nz cz, .slice Ax nx cx, .slice Ay n cy, .int .u64 (c0 : Int), .func (.func 266) #[] #[p]] w
      fun e w' => e = .returned (.int .u64 ((runC g xs ys c0).2 : Int)) ∧ Blk .u64 w' gz t (cs.take off ++ (runC g xs ys c0).1 ++ cs.drop (off + n)) ∧ w.grownBy w' (some gz) := by
  have LX := Lib.hid lx; have LY := Lib.hid ly; clear lx ly
  have HH := Lib.hid H; clear H
  go_enter Tryz.func200, Tryz.ntmps200
  go_wp2_with fail
  go_quiet (fail)
  go_wp2_with fail
  go_loopw [3, 23] (fun cv iv w1 => ∃ k : Nat, k ≤ n ∧ iv = .int .i64 (k : Int) ∧ cv = .int .u64 ((runC g (xs.take k) (ys.take k) c0).2 : Int) ∧ Pc (runC g (xs.take k) (ys.take k) c0).2 ∧
      Part w w1 gz t off k cs (runC g (xs.take k) (ys.take k) c0).1) (fun _ iv _ => n - (intOf iv).toNat)
  case atStart => exact ⟨0, by omega, rfl, rfl, hc0, ⟨by rw [List.take_zero, List.take_zero, runC_nil, splice_zero]; exact hb, Gr.drewN (Gr.refl _ _) _⟩⟩
  case round =>
    obtain ⟨k, hk, rfl, rfl, hpc, hp⟩ := hrel
    by_cases hlt : k < n
    · have hol : (runC g (xs.take k) (ys.take k) c0).1.length = k := by
        rw [runC_length _ _ _ _ (by rw [List.length_take, List.length_take, LX.out, LY.out]), List.length_take, LX.out]; omega
      obtain ⟨bx, qx, rfl, hcx⟩ := sx.at_ hb hp hol hoff LX.out hlt
      obtain ⟨by_, qy, rfl, hcy⟩ := sy.at_ hb hp hol hoff LY.out hlt
      obtain rfl := hz (by omega)
      have hkx : k < xs.length := by rw [LX.out]; exact hlt
      have hky : k < ys.length := by rw [LY.out]; exact hlt
      have hst := runC_take g c0 hkx hky
      have bx' : xs[k] < W64 := hx _ (List.getElem_mem _)
      have by' : ys[k] < W64 := hy _ (List.getElem_mem _)
      generalize xs[k] = x at *
      generalize ys[k] = y at *
      have HST := Lib.hid hst; clear hst
      have HOL := Lib.hid hol; clear hol
      have hcb := hp.blk
      have hkc : off + k < (cs.take off ++ (runC g (xs.take k) (ys.take k) c0).1 ++ cs.drop (off + k)).length := by
        rw [splice_length HOL.out (by omega)]; omega
      have HP := Lib.hid hp; clear hp hcb
      have HKC := Lib.hid hkc; clear hkc
      have hgs := hg x y _ bx' by' hpc
      generalize hcc : (runC g (xs.take k) (ys.take k) c0).2 = cc at *
      have HCC := Lib.hid hcc; clear hcc
      go_wp2_with fail
      refine (HH.out x y cc _ bx' by' hpc HP.out.gr).mono ?_
      rintro e w2 ⟨rfl, hq2⟩
      have hb2 := HP.out.blk.q hq2
      have hcell := hb2.cell HKC.out
      have hfz := hb2.frozen (off + k)
      generalize (cs.take off ++ (runC g (xs.take k) (ys.take k) c0).1 ++ cs.drop (off + k))[off + k]'HKC.out = old at *
      go_wp2_with fail
      have hb3 := hb2.set_ (off + k) (g x y cc).1
      rw [splice_set HOL.out (by omega)] at hb3
      refine ⟨⟨k + 1, by omega, by go_num, ?_, ?_, ⟨?_, ?_⟩⟩, by simp [intOf]; omega⟩
      · rw [HST.out]
      · rw [HST.out]; exact hgs.2
      · rw [HST.out]; exact hb3
      · exact Gr.setCell (Gr.q HP.out.gr hq2) _ _
    · obtain rfl : k = n := by omega
      go_wp2_with fail
      go_ret
      rw [List.take_of_length_le (by rw [LX.out]; omega), List.take_of_length_le (by rw [LY.out]; omega)] at *
      exact ⟨rfl, hp.blk, hp.gr⟩
set_option maxRecDepth 100000 in
set_option maxHeartbeats 1000000 in
theorem carried_combine (Az Ax Ay : Option Addr) (nz cz nx cx n cy gz t off c0 : Nat) (xs ys cs : List Nat) (w : World) (p q : Value) (g : Nat → Nat → Nat → Nat × Nat) (Pc : Nat → Prop)
    (hg : ∀ x y c, x < W64 → y < W64 → Pc c → (g x y c).1 < W64 ∧ Pc (g x y c).2) (hc0 : Pc c0)
    (H : ∀ (x y c : Nat) (w1 : World), x < W64 → y < W64 → Pc c → w.grownBy w1 (some gz) → Calls Tryz.prog 255 #[.int .u64 (x : Int), .int .u64 (y : Int), .int .u64 (c : Int), p, q] w1 fun e w' => e = .returned (.tuple #[.int .u64 ((g x y c).1 : Int), .int .u64 ((g x y c).2 : Int)]) ∧ Q w1 w')
    (hb : Blk .u64 w gz t cs) (hoff : off + n ≤ cs.length) (hz : 0 < n → Az = some ⟨gz, off, none⟩) (hnz : n ≤ cz) (hnx : n ≤ cx) (hny : n ≤ cy) (hn : n ≤ 1099511627776)
    (lx : xs.length = n) (ly : ys.length = n) (sx : Src w gz off Ax xs) (sy : Src w gz off Ay ys) (hx : ∀ d ∈ xs, d < W64) (hy : ∀ d ∈ ys, d < W64) :
    Calls Tryz.prog 200 #[.slice Az nz cz, .slice Ax nx cx, .slice Ay n cy, .int .u64 (c0 : Int), .func (.func 255) #[] #[p, q]] w
      fun e w' => e = .returned (.int .u64 ((runC g xs ys c0).2 : Int)) ∧ Blk .u64 w' gz t (cs.take off ++ (runC g xs ys c0).1 ++ cs.drop (off + n)) ∧ w.grownBy w' (some gz) := by
  have LX := Lib.hid lx; have LY := Lib.hid ly; clear lx ly
  have HH := Lib.hid H; clear H
  go_enter Tryz.func200, Tryz.ntmps200
  go_wp2_with fail
  go_quiet (fail)
  go_wp2_with fail
  go_loopw [3, 23] (fun cv iv w1 => ∃ k : Nat, k ≤ n ∧ iv = .int .i64 (k : Int) ∧ cv = .int .u64 ((runC g (xs.take k) (ys.take k) c0).2 : Int) ∧ Pc (runC g (xs.take k) (ys.take k) c0).2 ∧
      Part w w1 gz t off k cs (runC g (xs.take k) (ys.take k) c0).1) (fun _ iv _ => n - (intOf iv).toNat)
  case atStart => exact ⟨0, by omega, rfl, rfl, hc0, ⟨by rw [List.take_zero, List.take_zero, runC_nil, splice_zero]; exact hb, Gr.drewN (Gr.refl _ _) _⟩⟩
  case round =>
    obtain ⟨k, hk, rfl, rfl, hpc, hp⟩ := hrel
    by_cases hlt : k < n
    · have hol : (runC g (xs.take k) (ys.take k) c0).1.length = k := by
        rw [runC_length _ _ _ _ (by rw [List.length_take, List.length_take, LX.out, LY.out]), List.length_take, LX.out]; omega
      obtain ⟨bx, qx, rfl, hcx⟩ := sx.at_ hb hp hol hoff LX.out hlt
      obtain ⟨by_, qy, rfl, hcy⟩ := sy.at_ hb hp hol hoff LY.out hlt
      obtain rfl := hz (by omega)
      have hkx : k < xs.length := by rw [LX.out]; exact hlt
      have hky : k < ys.length := by rw [LY.out]; exact hlt
      have hst := runC_take g c0 hkx hky
      have bx' : xs[k] < W64 := hx _ (List.getElem_mem _)
      have by' : ys[k] < W64 := hy _ (List.getElem_mem _)
      generalize xs[k] = x at *
      generalize ys[k] = y at *
      have HST := Lib.hid hst; clear hst
      have HOL := Lib.hid hol; clear hol
      have hcb := hp.blk
      have hkc : off + k < (cs.take off ++ (runC g (xs.take k) (ys.take k) c0).1 ++ cs.drop (off + k)).length := by
        rw [splice_length HOL.out (by omega)]; omega
      have HP := Lib.hid hp; clear hp hcb
      have HKC := Lib.hid hkc; clear hkc
      have hgs := hg x y _ bx' by' hpc
      generalize hcc : (runC g (xs.take k) (ys.take k) c0).2 = cc at *
      have HCC := Lib.hid hcc; clear hcc
      go_wp2_with fail
      refine (HH.out x y cc _ bx' by' hpc HP.out.gr).mono ?_
      rintro e w2 ⟨rfl, hq2⟩
      have hb2 := HP.out.blk.q hq2
      have hcell := hb2.cell HKC.out
      have hfz := hb2.frozen (off + k)
      generalize (cs.take off ++ (runC g (xs.take k) (ys.take k) c0).1 ++ cs.drop (off + k))[off + k]'HKC.out = old at *
      go_wp2_with fail
      have hb3 := hb2.set_ (off + k) (g x y cc).1
      rw [splice_set HOL.out (by omega)] at hb3
      refine ⟨⟨k + 1, by omega, by go_num, ?_, ?_, ⟨?_, ?_⟩⟩, by simp [intOf]; omega⟩
      · rw [HST.out]
      · rw [HST.out]; exact hgs.2
      · rw [HST.out]; exact hb3
      · exact Gr.setCell (Gr.q HP.out.gr hq2) _ _
    · obtain rfl : k = n := by omega
      go_wp2_with fail
      go_ret
      rw [List.take_of_length_le (by rw [LX.out]; omega), List.take_of_length_le (by rw [LY.out]; omega)] at *
      exact ⟨rfl, hp.blk, hp.gr⟩
end Go.Proofs.YtimdddpfoagbjaaGreatDoor
namespace Go.Proofs.YtimdddpfoagbjaaGreatDoor
open Go.RowKit
open Ma Me
theorem scale_lt (f : Nat) (hf : f < W64) (x y c : Nat) (hx : x < W64) (_ : y < W64) (hc : c < W64) : (g_scale f x y c).1 < W64 ∧ (g_scale f x y c).2 < W64 := by
  have h := scale_ok hx hf hc rfl rfl rfl rfl
  refine ⟨Nat.mod_lt _ (by decide), ?_⟩
  have := h.2.2
  rw [h.2.1] at this
  exact this
theorem addScaled_lt (f : Nat) (hf : f < W64) (x y c : Nat) (hx : x < W64) (hy : y < W64) (hc : c < W64) : (g_addScaled f x y c).1 < W64 ∧ (g_addScaled f x y c).2 < W64 := by
  have h := addScaled_ok hx hy hf hc rfl rfl rfl rfl rfl rfl
  refine ⟨Nat.mod_lt _ (by decide), ?_⟩
  have h3 := h.2.2.1
  rw [h.2.1] at h3
  exact h3
theorem subScaled_lt (f : Nat) (hf : f < W64) (x y c : Nat) (_ : x < W64) (hy : y < W64) (hc : c < W64) : (subS f x y c).1 < W64 ∧ (subS f x y c).2 < W64 := by
  have h := subScaled_ok (x := x) hy hf hc rfl rfl rfl rfl rfl rfl
  refine ⟨subS_lt f x y c, ?_⟩
  have h3 := h.2.2.1
  rw [h.2.1] at h3
  exact h3
set_option maxRecDepth 100000 in
set_option maxHeartbeats 1000000 in
theorem v_scaleWords (Az Ax : Option Addr) (nz cz nx cx gz t off f c0 : Nat) (xs cs : List Nat) (w : World)
    (hb : Blk .u64 w gz t cs) (lx : xs.length = nx) (hoff : off + nx ≤ cs.length) (hz : 0 < nx → Az = some ⟨gz, off, none⟩) (hnz : nx ≤ cz) (hcx : nx ≤ cx) (hn : nx ≤ 1099511627776)
    (sx : Src w gz off Ax xs) (hx : ∀ d ∈ xs, d < W64) (hf : f < W64) (hc : c0 < W64) :
    Calls Tryz.prog 162 #[.slice Az nz cz, .slice Ax nx cx, .int .u64 (f : Int), .int .u64 (c0 : Int)] w
      fun e w' => ∃ (o : List Nat) (c : Nat), e = .returned (.int .u64 (c : Int)) ∧ c < W64 ∧ o.length = nx ∧ (∀ d ∈ o, d < W64) ∧ vl W64 o + W64 ^ nx * c = f * vl W64 xs + c0 ∧
        Blk .u64 w' gz t (cs.take off ++ o ++ cs.drop (off + nx)) ∧ w.grownBy w' (some gz) := by
  go_enter Tryz.func162, Tryz.ntmps162
  go_wp2_with fail
  have hbox : ∀ w1 : World, (w.alloc (.cells #[.int .u64 (f : Int)] 148)).grownBy w1 (some gz) → w1.cell? ⟨w.heap.size, 0, none⟩ = some (.int .u64 (f : Int)) := fun w1 hg => by
    rw [Gr.cell hg (p := ⟨w.heap.size, 0, none⟩) (by simp) (fun e => by have := hb.lt; simp only at e; omega)]
    exact cell_new _ _ _
  have sx1 : Src (w.alloc (.cells #[.int .u64 (f : Int)] 148)) gz off Ax xs := sx.q ((Q.refl _).alloc _)
  refine (carried_scale Az Ax Ax nz cz nx cx nx cx gz t off c0 xs xs cs _ (.pointer (some ⟨w.heap.size, 0, none⟩)) (g_scale f) (· < W64) (scale_lt f hf) hc
    (fun x y c w1 hx _ hc hg => cl_scale f x y c _ w1 hx hc hf (hbox w1 hg)) (hb.alloc _) hoff hz hnz hcx hcx hn lx lx sx1 sx1 hx hx).mono ?_
  rintro e w1 ⟨rfl, hb1, hg1⟩
  have h1 := runC_lt (b := W64) (P := (· < W64)) (scale_lt f hf) (c := c0) rfl hx hx hc
  have v1 := runC_sum (b := W64) (p := f) (q := 0) (P := (· < W64)) (scale_lt f hf) (fun x y c _ _ _ => by
    unfold g_scale; rw [Nat.mod_add_div, Nat.mul_comm x]; omega) (c := c0) rfl hx hx hc
  have l1 := runC_length (g_scale f) xs xs c0 rfl
  rw [lx] at l1 v1
  generalize (runC (g_scale f) xs xs c0).1 = o1 at *
  generalize (runC (g_scale f) xs xs c0).2 = c1 at *
  have V1 := Lib.hid v1; have L1 := Lib.hid l1; clear v1 l1 lx
  go_wp2_with fail
  go_ret
  exact ⟨o1, c1, rfl, h1.2, L1.out, h1.1, by rw [V1.out]; omega, hb1, Gr.trans (Gr.alloc (Gr.refl _ _) _) hg1⟩
set_option maxRecDepth 100000 in
set_option maxHeartbeats 1000000 in
theorem v_addScaled (Az Ay : Option Addr) (nz cz ny cy gz t off f : Nat) (ys cs : List Nat) (w : World)
    (hb : Blk .u64 w gz t cs) (ly : ys.length = ny) (hoff : off + ny ≤ cs.length) (hz : 0 < ny → Az = some ⟨gz, off, none⟩) (hnz : ny ≤ cz) (hcy : ny ≤ cy) (hn : ny ≤ 1099511627776)
    (sy : Src w gz off Ay ys) (hy : ∀ d ∈ ys, d < W64) (hcs : ∀ d ∈ cs, d < W64) (hf : f < W64) :
    Calls Tryz.prog 227 #[.slice Az nz cz, .slice Ay ny cy, .int .u64 (f : Int)] w
      fun e w' => ∃ (o : List Nat) (c : Nat), e = .returned (.int .u64 (c : Int)) ∧ c < W64 ∧ o.length = ny ∧ (∀ d ∈ o, d < W64) ∧ vl W64 o + W64 ^ ny * c = vl W64 ((cs.drop off).take ny) + f * vl W64 ys ∧
        Blk .u64 w' gz t (cs.take off ++ o ++ cs.drop (off + ny)) ∧ w.grownBy w' (some gz) := by
  go_enter Tryz.func227, Tryz.ntmps227
  go_wp2_with fail
  have hbox : ∀ w1 : World, (w.alloc (.cells #[.int .u64 (f : Int)] 148)).grownBy w1 (some gz) → w1.cell? ⟨w.heap.size, 0, none⟩ = some (.int .u64 (f : Int)) := fun w1 hg => by
    rw [Gr.cell hg (p := ⟨w.heap.size, 0, none⟩) (by simp) (fun e => by have := hb.lt; simp only at e; omega)]
    exact cell_new _ _ _
  have hq1 : Q w (w.alloc (.cells #[.int .u64 (f : Int)] 148)) := (Q.refl _).alloc _
  have lz : ((cs.drop off).take ny).length = ny := by rw [List.length_take, List.length_drop]; omega
  have hzd : ∀ d ∈ (cs.drop off).take ny, d < W64 := mem_take (mem_drop hcs)
  have sz : Src (w.alloc (.cells #[.int .u64 (f : Int)] 148)) gz off Az ((cs.drop off).take ny) := by
    rcases Nat.eq_zero_or_pos ny with h0 | h0
    · subst h0; rw [List.take_zero]; exact Src.nil
    · rw [hz h0]; exact (Src.own (hb.q hq1))
  have sy1 := sy.q hq1
  refine (carried_addScaled Az Az Ay nz cz nz cz ny cy gz t off 0 ((cs.drop off).take ny) ys cs _ (.pointer (some ⟨w.heap.size, 0, none⟩)) (g_addScaled f) (· < W64) (addScaled_lt f hf) (by decide)
    (fun x y c w1 hx hy hc hg => cl_addScaled f x y c _ w1 hx hy hc hf (hbox w1 hg)) (hb.alloc _) hoff hz hnz hnz hcy hn lz ly sz sy1 hzd hy).mono ?_
  rintro e w1 ⟨rfl, hb1, hg1⟩
  have h1 := runC_lt (b := W64) (P := (· < W64)) (addScaled_lt f hf) (c := 0) (lz.trans ly.symm) hzd hy (by decide)
  have v1 := runC_sum (b := W64) (p := 1) (q := f) (P := (· < W64)) (addScaled_lt f hf) (fun x y c _ _ _ => by
    unfold g_addScaled; rw [Nat.mod_add_div, Nat.mul_comm y]; omega) (c := 0) (lz.trans ly.symm) hzd hy (by decide)
  have l1 := runC_length (g_addScaled f) ((cs.drop off).take ny) ys 0 (lz.trans ly.symm)
  rw [lz] at l1 v1
  generalize (runC (g_addScaled f) ((cs.drop off).take ny) ys 0).1 = o1 at *
  generalize (runC (g_addScaled f) ((cs.drop off).take ny) ys 0).2 = c1 at *
  have V1 := Lib.hid v1; have L1 := Lib.hid l1; clear v1 l1 lz ly
  go_wp2_with fail
  go_ret
  exact ⟨o1, c1, rfl, h1.2, L1.out, h1.1, by rw [V1.out]; omega, hb1, Gr.trans (Gr.alloc (Gr.refl _ _) _) hg1⟩
set_option maxRecDepth 100000 in
set_option maxHeartbeats 1000000 in
theorem v_subScaled (Az Ay : Option Addr) (nz cz ny cy gz t off f : Nat) (ys cs : List Nat) (w : World)
    (hb : Blk .u64 w gz t cs) (ly : ys.length = ny) (hoff : off + ny ≤ cs.length) (hz : 0 < ny → Az = some ⟨gz, off, none⟩) (hnz : ny ≤ cz) (hcy : ny ≤ cy) (hn : ny ≤ 1099511627776)
    (sy : Src w gz off Ay ys) (hy : ∀ d ∈ ys, d < W64) (hcs : ∀ d ∈ cs, d < W64) (hf : f < W64) :
    Calls Tryz.prog 262 #[.slice Az nz cz, .slice Ay ny cy, .int .u64 (f : Int)] w
      fun e w' => ∃ (o : List Nat) (c : Nat), e = .returned (.int .u64 (c : Int)) ∧ c < W64 ∧ o.length = ny ∧ (∀ d ∈ o, d < W64) ∧ vl W64 ((cs.drop off).take ny) + W64 ^ ny * c = vl W64 o + f * vl W64 ys ∧
        Blk .u64 w' gz t (cs.take off ++ o ++ cs.drop (off + ny)) ∧ w.grownBy w' (some gz) := by
  go_enter Tryz.func262, Tryz.ntmps262
  go_wp2_with fail
  have hbox : ∀ w1 : World, (w.alloc (.cells #[.int .u64 (f : Int)] 148)).grownBy w1 (some gz) → w1.cell? ⟨w.heap.size, 0, none⟩ = some (.int .u64 (f : Int)) := fun w1 hg => by
    rw [Gr.cell hg (p := ⟨w.heap.size, 0, none⟩) (by simp) (fun e => by have := hb.lt; simp only at e; omega)]
    exact cell_new _ _ _
  have hq1 : Q w (w.alloc (.cells #[.int .u64 (f : Int)] 148)) := (Q.refl _).alloc _
  have lz : ((cs.drop off).take ny).length = ny := by rw [List.length_take, List.length_drop]; omega
  have hzd : ∀ d ∈ (cs.drop off).take ny, d < W64 := mem_take (mem_drop hcs)
  have sz : Src (w.alloc (.cells #[.int .u64 (f : Int)] 148)) gz off Az ((cs.drop off).take ny) := by
    rcases Nat.eq_zero_or_pos ny with h0 | h0
    · subst h0; rw [List.take_zero]; exact Src.nil
    · rw [hz h0]; exact (Src.own (hb.q hq1))
  have sy1 := sy.q hq1
  refine (carried_subScaled Az Az Ay nz cz nz cz ny cy gz t off 0 ((cs.drop off).take ny) ys cs _ (.pointer (some ⟨w.heap.size, 0, none⟩)) (subS f) (· < W64) (subScaled_lt f hf) (by decide)
    (fun x y c w1 _ hy hc hg => cl_subScaled f x y c _ w1 hy hc hf (hbox w1 hg)) (hb.alloc _) hoff hz hnz hnz hcy hn lz ly sz sy1 hzd hy).mono ?_
  rintro e w1 ⟨rfl, hb1, hg1⟩
  have h1 := runC_lt (b := W64) (P := (· < W64)) (subScaled_lt f hf) (c := 0) (lz.trans ly.symm) hzd hy (by decide)
  have v1 := runC_diff (b := W64) (q := f) (P := (· < W64)) (subScaled_lt f hf) (fun x y c hx _ _ => by
    have := subS_val (f := f) (y := y) (c := c) hx
    rw [Nat.mul_comm f]; exact this) (c := 0) (lz.trans ly.symm) hzd hy (by decide)
  have l1 := runC_length (subS f) ((cs.drop off).take ny) ys 0 (lz.trans ly.symm)
  rw [lz] at l1 v1
  generalize (runC (subS f) ((cs.drop off).take ny) ys 0).1 = o1 at *
  generalize (runC (subS f) ((cs.drop off).take ny) ys 0).2 = c1 at *
  have V1 := Lib.hid v1; have L1 := Lib.hid l1; clear v1 l1 lz ly
  go_wp2_with fail
  go_ret
  exact ⟨o1, c1, rfl, h1.2, L1.out, h1.1, V1.out, hb1, Gr.trans (Gr.alloc (Gr.refl _ _) _) hg1⟩
set_option maxRecDepth 100000 in
set_option maxHeartbeats 1000000 in
theorem v_combine (Az Ax Ay : Option Addr) (nz cz nx cx ny cy gz t off f g : Nat) (xs ys cs : List Nat) (w : World)
    (hb : Blk .u64 w gz t cs) (lx : xs.length = ny) (ly : ys.length = ny) (hnx : nx = ny) (hoff : off + ny ≤ cs.length) (hz : 0 < ny → Az = some ⟨gz, off, none⟩) (hnz : ny ≤ cz) (hcx : ny ≤ cx) (hcy : ny ≤ cy) (hn : ny ≤ 1099511627776)
    (sx : Src w gz off Ax xs) (sy : Src w gz off Ay ys) (hx : ∀ d ∈ xs, d < W64) (hy : ∀ d ∈ ys, d < W64) (hf : f < 9223372036854775808) (hg : g < 9223372036854775808)
    (hle : g * vl W64 ys ≤ f * vl W64 xs) (hlt : f * vl W64 xs - g * vl W64 ys < W64 ^ ny) :
    Calls Tryz.prog 236 #[.slice Az nz cz, .slice Ax nx cx, .slice Ay ny cy, .int .u64 (f : Int), .int .u64 (g : Int)] w
      fun e w' => ∃ (o : List Nat), e = .returned (.tuple #[]) ∧ o.length = ny ∧ (∀ d ∈ o, d < W64) ∧ vl W64 o = f * vl W64 xs - g * vl W64 ys ∧
        Blk .u64 w' gz t (cs.take off ++ o ++ cs.drop (off + ny)) ∧ w.grownBy w' (some gz) := by
  subst hnx
  have hf6 : f < W64 := by rw [W64_eq]; omega
  have hg6 : g < W64 := by rw [W64_eq]; omega
  have LX := Lib.hid lx; have LY := Lib.hid ly; clear lx ly
  go_enter Tryz.func236, Tryz.ntmps236
  go_wp2_with fail
  have hq2 : Q w ((w.alloc (.cells #[.int .u64 (f : Int)] 148)).alloc (.cells #[.int .u64 (g : Int)] 148)) := ((Q.refl _).alloc _).alloc _
  have hbox : ∀ w1 : World, ((w.alloc (.cells #[.int .u64 (f : Int)] 148)).alloc (.cells #[.int .u64 (g : Int)] 148)).grownBy w1 (some gz) →
      w1.cell? ⟨w.heap.size, 0, none⟩ = some (.int .u64 (f : Int)) ∧ w1.cell? ⟨w.heap.size + 1, 0, none⟩ = some (.int .u64 (g : Int)) := fun w1 hg => by
    constructor
    · rw [Gr.cell hg (p := ⟨w.heap.size, 0, none⟩) (by simp; omega) (fun e => by have := hb.lt; simp only at e; omega), World.cell?_alloc_lt _ _ _ (by simp)]
      exact cell_new _ _ _
    · rw [Gr.cell hg (p := ⟨w.heap.size + 1, 0, none⟩) (by simp) (fun e => by have := hb.lt; simp only at e; omega)]
      have h := cell_new (w.alloc (.cells #[.int .u64 (f : Int)] 148)) (.int .u64 (g : Int)) 148
      rw [show (w.alloc (.cells #[.int .u64 (f : Int)] 148)).heap.size = w.heap.size + 1 by simp] at h
      exact h
  refine (carried_combine Az Ax Ay nz cz nx cx nx cy gz t off 0 xs ys cs _ (.pointer (some ⟨w.heap.size, 0, none⟩)) (.pointer (some ⟨w.heap.size + 1, 0, none⟩)) (comb f g) (· < W64) (fun x y c _ _ _ => comb_lt f g x y c) (by decide)
    (fun x y c w1 hx hy hc hgr => cl_combine f g x y c _ _ w1 hx hy hc hf6 hg6 (hbox w1 hgr).1 (hbox w1 hgr).2) (hb.q hq2) hoff hz hnz hcx hcy hn LX.out LY.out (sx.q hq2) (sy.q hq2) hx hy).mono ?_
  rintro e w1 ⟨rfl, hb1, hg1⟩
  have hl := LX.out.trans LY.out.symm
  have h1 := runC_lt (b := W64) (P := (· < W64)) (g := comb f g) (fun x y c _ _ _ => comb_lt f g x y c) (c := 0) hl hx hy (by decide)
  have v1 := runC_comb_nat hf hg hl hx hy hle (by rw [LX.out]; exact hlt)
  have l1 := runC_length (comb f g) xs ys 0 hl
  rw [LX.out] at l1
  generalize (runC (comb f g) xs ys 0).1 = o1 at *
  have V1 := Lib.hid v1; have L1 := Lib.hid l1; clear v1 l1
  go_wp2_with fail
  go_end0
  exact ⟨o1, rfl, L1.out, h1.1, V1.out, hb1, Gr.trans (Gr.alloc (Gr.alloc (Gr.refl _ _) _) _) hg1⟩
end Go.Proofs.YtimdddpfoagbjaaGreatDoor
namespace Go.Proofs.YtimdddpfoagbjaaGreatDoor
open Go.RowKit
open Ma Me
theorem addTail_ok (x y c : Nat) (hx : x < W64) (_ : y < W64) (hc : c ≤ 1) : (g_addTail x y c).1 < W64 ∧ (g_addTail x y c).2 ≤ 1 := by
  unfold g_addTail
  rw [W64_eq] at *
  show (x + c) % _ < _ ∧ (x + c) / _ ≤ 1
  omega
theorem subTail_ok (x y c : Nat) (_ : x < W64) (_ : y < W64) (_ : c ≤ 1) : (g_subTail x y c).1 < W64 ∧ (g_subTail x y c).2 ≤ 1 := by
  unfold g_subTail
  refine ⟨Nat.mod_lt _ (by decide), ?_⟩
  show (if x < c then 1 else 0) ≤ 1
  split <;> omega
set_option maxRecDepth 100000 in
set_option maxHeartbeats 1000000 in
theorem v_addWords (Az Ax Ay : Option Addr) (nz cz nx cx ny cy gz t off : Nat) (xs ys cs : List Nat) (w : World)
    (hb : Blk .u64 w gz t cs) (lx : xs.length = nx) (ly : ys.length = ny) (hyx : ny ≤ nx) (hoff : off + nx ≤ cs.length) (hz : 0 < nx → Az = some ⟨gz, off, none⟩) (hnz : nx ≤ nz) (hcz : nz ≤ cz) (hcx : nx ≤ cx) (hcy : ny ≤ cy) (hn : nx ≤ 1099511627776)
    (sx : Src w gz off Ax xs) (sy : Src w gz off Ay ys) (hx : ∀ d ∈ xs, d < W64) (hy : ∀ d ∈ ys, d < W64) :
    Calls Tryz.prog 228 #[.slice Az nz cz, .slice Ax nx cx, .slice Ay ny cy] w
      fun e w' => ∃ (o : List Nat) (c : Nat), e = .returned (.int .u64 (c : Int)) ∧ c ≤ 1 ∧ o.length = nx ∧ (∀ d ∈ o, d < W64) ∧ vl W64 o + W64 ^ nx * c = vl W64 xs + vl W64 ys ∧
        Blk .u64 w' gz t (cs.take off ++ o ++ cs.drop (off + nx)) ∧ w.grownBy w' (some gz) := by
  have LX := Lib.hid lx; have LY := Lib.hid ly; clear lx ly
  have lt1 : (xs.take ny).length = ny := by rw [List.length_take, LX.out]; omega
  have lt2 : (xs.drop ny).length = nx - ny := by rw [List.length_drop, LX.out]
  have LT1 := Lib.hid lt1; have LT2 := Lib.hid lt2; clear lt1 lt2
  go_enter Tryz.func228, Tryz.ntmps228
  go_wp2_with fail
  refine (carried_add Az Ax Ay nz cz nx cx ny cy gz t off 0 (xs.take ny) ys cs w (by omega) hb (by omega) (fun h => hz (by omega)) (by omega) (by omega) hcy (by omega) LT1.out LY.out (sx.take ny) sy (mem_take hx) hy).mono ?_
  rintro e w1 ⟨rfl, hb1, hg1⟩
  have h1 := runC_lt (b := W64) (P := (· ≤ 1)) g_add_ok (c := 0) (by rw [LT1.out, LY.out]) (mem_take (n := ny) hx) hy (by omega)
  have v1 := runC_sum (b := W64) (p := 1) (q := 1) (P := (· ≤ 1)) g_add_ok (fun x y c _ _ _ => by
    unfold g_add; rw [Nat.mod_add_div]; omega) (c := 0) (by rw [LT1.out, LY.out]) (mem_take (n := ny) hx) hy (by omega)
  have l1 := runC_length g_add (xs.take ny) ys 0 (by rw [LT1.out, LY.out])
  rw [LT1.out] at l1 v1
  have sx1 := sx.after hb hb1 hg1 l1 (by rw [LX.out]; omega) (by rw [LX.out]; exact hoff) (cap := cx) (by rw [LX.out]; exact hcx)
  generalize (runC g_add (xs.take ny) ys 0).1 = o1 at *
  generalize (runC g_add (xs.take ny) ys 0).2 = c1 at *
  have V1 := Lib.hid v1; have L1 := Lib.hid l1; clear v1 l1
  rcases Nat.lt_or_ge ny nx with hlt | hge
  · rw [if_neg (by omega)] at sx1
    obtain rfl := hz (by omega)
    go_wp2_with fail
    go_quiet (fail)
    go_wp2_with fail
    have hl1 : (cs.take off ++ o1 ++ cs.drop (off + ny)).length = cs.length := splice_length L1.out (by omega)
    have hxd : ∀ d ∈ xs.drop ny, d < W64 := mem_drop hx
    refine (carried_addTail _ _ _ (nz - ny) (cz - ny) (nx - ny) (cx - ny) (nx - ny) (cx - ny) gz t (off + ny) c1 (xs.drop ny) (xs.drop ny) (cs.take off ++ o1 ++ cs.drop (off + ny)) _ g_addTail (· ≤ 1) addTail_ok h1.2
      (fun x y c w1 _ _ hc _ => cl_addTail x y c w1 hc) (hb1.drewN _) (by rw [hl1]; omega) (fun _ => by simp) (by omega) (by omega) (by omega) (by omega) LT2.out LT2.out sx1 sx1 hxd hxd).mono ?_
    rintro e w2 ⟨rfl, hb2, hg2⟩
    have h2 := runC_lt (b := W64) (P := (· ≤ 1)) addTail_ok (c := c1) rfl hxd hxd h1.2
    have v2 := runC_sum (b := W64) (p := 1) (q := 0) (P := (· ≤ 1)) addTail_ok (fun x y c _ _ _ => by
      unfold g_addTail; rw [Nat.mod_add_div]; omega) (c := c1) rfl hxd hxd h1.2
    have l2 := runC_length g_addTail (xs.drop ny) (xs.drop ny) c1 rfl
    rw [LT2.out] at l2 v2
    generalize (runC g_addTail (xs.drop ny) (xs.drop ny) c1).1 = o2 at *
    generalize (runC g_addTail (xs.drop ny) (xs.drop ny) c1).2 = c2 at *
    rw [splice_splice L1.out l2 (by omega), show ny + (nx - ny) = nx by omega] at hb2
    have V2 := Lib.hid v2; have L2 := Lib.hid l2; clear v2 l2 hl1
    go_wp2_with fail
    go_ret
    refine ⟨o1 ++ o2, c2, rfl, h2.2, by rw [List.length_append, L1.out, L2.out]; omega, ?_, ?_, hb2, Gr.trans (Gr.drewN hg1 _) hg2⟩
    · intro d hd
      rcases List.mem_append.1 hd with hd | hd
      · exact h1.1 d hd
      · exact h2.1 d hd
    · rw [vl_append, L1.out, vl_take_drop W64 ny xs (by rw [LX.out]; exact hyx)]
      exact add_parts hyx V1.out V2.out
  · obtain rfl : nx = ny := by omega
    have ext : xs.take nx = xs := List.take_of_length_le (by rw [LX.out]; exact Nat.le_refl _)
    rw [ext] at V1
    go_wp2_with fail
    go_quiet (fail)
    go_wp2_with fail
    all_goals
      refine (carried_addTail _ _ _ _ _ 0 _ 0 _ gz t (off + nx) c1 [] [] (cs.take off ++ o1 ++ cs.drop (off + nx)) _ g_addTail (· ≤ 1) addTail_ok h1.2
        (fun x y c w1 _ _ hc _ => cl_addTail x y c w1 hc) (hb1.drewN _) (by rw [splice_length L1.out (by omega)]; omega) (by omega) (by omega) (by omega) (by omega) (by omega) rfl rfl Src.nil Src.nil (by simp) (by simp)).mono ?_
      rintro e w2 ⟨rfl, hb2, hg2⟩
      rw [runC_nil, splice_zero] at hb2
      go_wp2_with fail
      go_ret
      exact ⟨o1, c1, rfl, h1.2, L1.out, h1.1, by rw [V1.out]; omega, hb2, Gr.trans (Gr.drewN hg1 _) hg2⟩
set_option maxRecDepth 100000 in
set_option maxHeartbeats 1000000 in
theorem v_subWords (Az Ax Ay : Option Addr) (nz cz nx cx ny cy gz t off : Nat) (xs ys cs : List Nat) (w : World)
    (hb : Blk .u64 w gz t cs) (lx : xs.length = nx) (ly : ys.length = ny) (hyx : ny ≤ nx) (hoff : off + nx ≤ cs.length) (hz : 0 < nx → Az = some ⟨gz, off, none⟩) (hnz : nx ≤ nz) (hcz : nz ≤ cz) (hcx : nx ≤ cx) (hcy : ny ≤ cy) (hn : nx ≤ 1099511627776)
    (sx : Src w gz off Ax xs) (sy : Src w gz off Ay ys) (hx : ∀ d ∈ xs, d < W64) (hy : ∀ d ∈ ys, d < W64) :
    Calls Tryz.prog 229 #[.slice Az nz cz, .slice Ax nx cx, .slice Ay ny cy] w
      fun e w' => ∃ (o : List Nat) (c : Nat), e = .returned (.int .u64 (c : Int)) ∧ c ≤ 1 ∧ o.length = nx ∧ (∀ d ∈ o, d < W64) ∧ vl W64 xs + W64 ^ nx * c = vl W64 o + vl W64 ys ∧
        Blk .u64 w' gz t (cs.take off ++ o ++ cs.drop (off + nx)) ∧ w.grownBy w' (some gz) := by
  have LX := Lib.hid lx; have LY := Lib.hid ly; clear lx ly
  have lt1 : (xs.take ny).length = ny := by rw [List.length_take, LX.out]; omega
  have lt2 : (xs.drop ny).length = nx - ny := by rw [List.length_drop, LX.out]
  have LT1 := Lib.hid lt1; have LT2 := Lib.hid lt2; clear lt1 lt2
  go_enter Tryz.func229, Tryz.ntmps229
  go_wp2_with fail
  refine (carried_sub Az Ax Ay nz cz nx cx ny cy gz t off 0 (xs.take ny) ys cs w (by omega) hb (by omega) (fun h => hz (by omega)) (by omega) (by omega) hcy (by omega) LT1.out LY.out (sx.take ny) sy (mem_take hx) hy).mono ?_
  rintro e w1 ⟨rfl, hb1, hg1⟩
  have h1 := runC_lt (b := W64) (P := (· ≤ 1)) g_sub_ok (c := 0) (by rw [LT1.out, LY.out]) (mem_take (n := ny) hx) hy (by omega)
  have v1 := runC_diff (b := W64) (q := 1) (P := (· ≤ 1)) g_sub_ok (fun x y c hx hy hc => by
    unfold g_sub; rw [W64_eq] at *; simp only; split <;> omega) (c := 0) (by rw [LT1.out, LY.out]) (mem_take (n := ny) hx) hy (by omega)
  have l1 := runC_length g_sub (xs.take ny) ys 0 (by rw [LT1.out, LY.out])
  rw [LT1.out] at l1 v1
  have sx1 := sx.after hb hb1 hg1 l1 (by rw [LX.out]; omega) (by rw [LX.out]; exact hoff) (cap := cx) (by rw [LX.out]; exact hcx)
  generalize (runC g_sub (xs.take ny) ys 0).1 = o1 at *
  generalize (runC g_sub (xs.take ny) ys 0).2 = c1 at *
  have V1 := Lib.hid v1; have L1 := Lib.hid l1; clear v1 l1
  rcases Nat.lt_or_ge ny nx with hlt | hge
  · rw [if_neg (by omega)] at sx1
    obtain rfl := hz (by omega)
    go_wp2_with fail
    go_quiet (fail)
    go_wp2_with fail
    have hl1 : (cs.take off ++ o1 ++ cs.drop (off + ny)).length = cs.length := splice_length L1.out (by omega)
    have hxd : ∀ d ∈ xs.drop ny, d < W64 := mem_drop hx
    refine (carried_subTail _ _ _ (nz - ny) (cz - ny) (nx - ny) (cx - ny) (nx - ny) (cx - ny) gz t (off + ny) c1 (xs.drop ny) (xs.drop ny) (cs.take off ++ o1 ++ cs.drop (off + ny)) _ g_subTail (· ≤ 1) subTail_ok h1.2
      (fun x y c w1 _ _ hc _ => cl_subTail x y c w1 hc) (hb1.drewN _) (by rw [hl1]; omega) (fun _ => by simp) (by omega) (by omega) (by omega) (by omega) LT2.out LT2.out sx1 sx1 hxd hxd).mono ?_
    rintro e w2 ⟨rfl, hb2, hg2⟩
    have h2 := runC_lt (b := W64) (P := (· ≤ 1)) subTail_ok (c := c1) rfl hxd hxd h1.2
    have v2 := runC_diff (b := W64) (q := 0) (P := (· ≤ 1)) subTail_ok (fun x y c hx hy hc => by
      unfold g_subTail; rw [W64_eq] at *; simp only; split <;> omega) (c := c1) rfl hxd hxd h1.2
    have l2 := runC_length g_subTail (xs.drop ny) (xs.drop ny) c1 rfl
    rw [LT2.out] at l2 v2
    generalize (runC g_subTail (xs.drop ny) (xs.drop ny) c1).1 = o2 at *
    generalize (runC g_subTail (xs.drop ny) (xs.drop ny) c1).2 = c2 at *
    rw [splice_splice L1.out l2 (by omega), show ny + (nx - ny) = nx by omega] at hb2
    have V2 := Lib.hid v2; have L2 := Lib.hid l2; clear v2 l2 hl1
    go_wp2_with fail
    go_ret
    refine ⟨o1 ++ o2, c2, rfl, h2.2, by rw [List.length_append, L1.out, L2.out]; omega, ?_, ?_, hb2, Gr.trans (Gr.drewN hg1 _) hg2⟩
    · intro d hd
      rcases List.mem_append.1 hd with hd | hd
      · exact h1.1 d hd
      · exact h2.1 d hd
    · rw [vl_append, L1.out, vl_take_drop W64 ny xs (by rw [LX.out]; exact hyx)]
      exact sub_parts hyx V1.out V2.out
  · obtain rfl : nx = ny := by omega
    have ext : xs.take nx = xs := List.take_of_length_le (by rw [LX.out]; exact Nat.le_refl _)
    rw [ext] at V1
    go_wp2_with fail
    go_quiet (fail)
    go_wp2_with fail
    all_goals
      refine (carried_subTail _ _ _ _ _ 0 _ 0 _ gz t (off + nx) c1 [] [] (cs.take off ++ o1 ++ cs.drop (off + nx)) _ g_subTail (· ≤ 1) subTail_ok h1.2
        (fun x y c w1 _ _ hc _ => cl_subTail x y c w1 hc) (hb1.drewN _) (by rw [splice_length L1.out (by omega)]; omega) (by omega) (by omega) (by omega) (by omega) (by omega) rfl rfl Src.nil Src.nil (by simp) (by simp)).mono ?_
      rintro e w2 ⟨rfl, hb2, hg2⟩
      rw [runC_nil, splice_zero] at hb2
      go_wp2_with fail
      go_ret
      exact ⟨o1, c1, rfl, h1.2, L1.out, h1.1, by rw [V1.out]; omega, hb2, Gr.trans (Gr.drewN hg1 _) hg2⟩
end Go.Proofs.YtimdddpfoagbjaaGreatDoor
