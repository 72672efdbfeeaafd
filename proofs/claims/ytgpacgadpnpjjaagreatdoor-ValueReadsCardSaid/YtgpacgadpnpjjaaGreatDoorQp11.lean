/- ValueParses: for every string the law holds: what Check, Parse, Text and Digits return is what the document says. No condition.. Part of the proof: texts Wa5 Va2 Va3 Va4 Vb1 Va5. -/
import Derived.Deep.RegionHeld3
import Derived.Deep.RegionWith
import Derived.Test.YtgpacgadpnpjjaaGreatDoorQp01
import Derived.Test.YtgpacgadpnpjjaaGreatDoorQp03
import Derived.Test.YtgpacgadpnpjjaaGreatDoorQp04
import Derived.Test.YtgpacgadpnpjjaaGreatDoorQp09
import Derived.Test.YtgpacgadpnpjjaaGreatDoorQp10
set_option maxHeartbeats 1000000
namespace Go.Proofs.YtgpacgadpnpjjaaGreatDoor
open Go.RowKit
open Ma Me
theorem kV (x y c : Nat) (hx : x < W64) (_ : y < W64) (hc : c ≤ 1) : (eO x y c).1 < W64 ∧ (eO x y c).2 ≤ 1 := by
 unfold eO;rw [aU] at *
 show (x + c) % _ < _ ∧ (x + c) / _ ≤ 1;omega
theorem kW (x y c : Nat) (_ : x < W64) (_ : y < W64) (_ : c ≤ 1) : (dJ x y c).1 < W64 ∧ (dJ x y c).2 ≤ 1 := by
 unfold dJ;refine ⟨Nat.mod_lt _ (by decide), ?_⟩;show (if x < c then 1 else 0) ≤ 1;split <;> omega
set_option maxRecDepth 100000 in
theorem oQ (Az Ax Ay : Option Addr) (nz cz nx cx ny cy gz t off : Nat) (xs ys cs : List Nat) (w : World) (hb : Blk .u64 w gz t cs) (lx : xs.length = nx) (ly : ys.length = ny) (hyx : ny ≤ nx) (hoff : off + nx ≤ cs.length) (hz : 0 < nx → Az = some ⟨gz, off, none⟩) (hnz : nx ≤ nz) (hcz : nz ≤ cz) (hcx : nx ≤ cx) (hcy : ny ≤ cy) (hn : nx ≤ 1099511627776) (sx : Src w gz off Ax xs) (sy : Src w gz off Ay ys) (hx : ∀ d ∈ xs, d < W64) (hy : ∀ d ∈ ys, d < W64) : Calls Tryz.prog 212 #[.slice Az nz cz, .slice Ax nx cx, .slice Ay ny cy] w
   fun e w' => ∃ (o : List Nat) (c : Nat), e = .returned (.int .u64 (c : Int)) ∧ c ≤ 1 ∧ o.length = nx ∧ (∀ d ∈ o, d < W64) ∧ vl W64 o + W64 ^ nx * c = vl W64 xs + vl W64 ys ∧
    Blk .u64 w' gz t (cs.take off ++ o ++ cs.drop (off + nx)) ∧ w.grownBy w' (some gz) := by
 have LX := Lib.hid lx; have LY := Lib.hid ly; clear lx ly;have lt1 : (xs.take ny).length = ny := by rw [List.length_take, LX.out]; omega
 have lt2 : (xs.drop ny).length = nx - ny := by rw [List.length_drop, LX.out]
 have LT1 := Lib.hid lt1; have LT2 := Lib.hid lt2; clear lt1 lt2;go_enter Tryz.func212, Tryz.ntmps212
 go_wp2_with fail
 refine (aAi Az Ax Ay nz cz nx cx ny cy gz t off 0 (xs.take ny) ys cs w (by omega) hb (by omega) (fun h => hz (by omega)) (by omega) (by omega) hcy (by omega) LT1.out LY.out (sx.take ny) sy (aI hx) hy).mono ?_;rintro e w1 ⟨rfl, hb1, hg1⟩;have h1 := gV (b := W64) (P := (· ≤ 1)) sW (c := 0) (by rw [LT1.out, LY.out]) (aI (n := ny) hx) hy (by omega);have v1 := lJ (b := W64) (p := 1) (q := 1) (P := (· ≤ 1)) sW (fun x y c _ _ _ => by
  unfold dL; rw [Nat.mod_add_div]; omega) (c := 0) (by rw [LT1.out, LY.out]) (aI (n := ny) hx) hy (by omega)
 have l1 := aP dL (xs.take ny) ys 0 (by rw [LT1.out, LY.out]);rw [LT1.out] at l1 v1;have sx1 := sx.after hb hb1 hg1 l1 (by rw [LX.out]; omega) (by rw [LX.out]; exact hoff) (cap := cx) (by rw [LX.out]; exact hcx);generalize (aC dL (xs.take ny) ys 0).1 = o1 at *
 generalize (aC dL (xs.take ny) ys 0).2 = c1 at *
 have V1 := Lib.hid v1; have L1 := Lib.hid l1; clear v1 l1;rcases Nat.lt_or_ge ny nx with hlt | hge
 ·rw [if_neg (by omega)] at sx1;obtain rfl := hz (by omega);go_wp2_with fail
  go_quiet (fail)
  go_wp2_with fail
  have hl1 : (cs.take off ++ o1 ++ cs.drop (off + ny)).length = cs.length := aO L1.out (by omega);have hxd : ∀ d ∈ xs.drop ny, d < W64 := fA hx
  refine (mW _ _ _ (nz - ny) (cz - ny) (nx - ny) (cx - ny) (nx - ny) (cx - ny) gz t (off + ny) c1 (xs.drop ny) (xs.drop ny) (cs.take off ++ o1 ++ cs.drop (off + ny)) _ eO (· ≤ 1) kV h1.2
   (fun x y c w1 _ _ hc _ => uM x y c w1 hc) (hb1.drewN _) (by rw [hl1]; omega) (fun _ => by simp) (by omega) (by omega) (by omega) (by omega) LT2.out LT2.out sx1 sx1 hxd hxd).mono ?_
  rintro e w2 ⟨rfl, hb2, hg2⟩;have h2 := gV (b := W64) (P := (· ≤ 1)) kV (c := c1) rfl hxd hxd h1.2;have v2 := lJ (b := W64) (p := 1) (q := 0) (P := (· ≤ 1)) kV (fun x y c _ _ _ => by
   unfold eO; rw [Nat.mod_add_div]; omega) (c := c1) rfl hxd hxd h1.2
  have l2 := aP eO (xs.drop ny) (xs.drop ny) c1 rfl;rw [LT2.out] at l2 v2;generalize (aC eO (xs.drop ny) (xs.drop ny) c1).1 = o2 at *
  generalize (aC eO (xs.drop ny) (xs.drop ny) c1).2 = c2 at *
  rw [pI L1.out l2 (by omega), show ny + (nx - ny) = nx by omega] at hb2;have V2 := Lib.hid v2; have L2 := Lib.hid l2; clear v2 l2 hl1;go_wp2_with fail
  go_ret
  refine ⟨o1 ++ o2, c2, rfl, h2.2, by rw [List.length_append, L1.out, L2.out]; omega, ?_, ?_, hb2, Gr.trans (Gr.drewN hg1 _) hg2⟩
  ·intro d hd;rcases List.mem_append.1 hd with hd | hd
   ·exact h1.1 d hd
   ·exact h2.1 d hd
  ·rw [fD, L1.out, bI W64 ny xs (by rw [LX.out]; exact hyx)];exact aBD hyx V1.out V2.out
 ·obtain rfl : nx = ny := (by omega);have ext : xs.take nx = xs := List.take_of_length_le (by rw [LX.out]; exact Nat.le_refl _);rw [ext] at V1;go_wp2_with fail
  go_quiet (fail)
  go_wp2_with fail
  all_goals
   refine (mW _ _ _ _ _ 0 _ 0 _ gz t (off + nx) c1 [] [] (cs.take off ++ o1 ++ cs.drop (off + nx)) _ eO (· ≤ 1) kV h1.2
    (fun x y c w1 _ _ hc _ => uM x y c w1 hc) (hb1.drewN _) (by rw [aO L1.out (by omega)]; omega) (by omega) (by omega) (by omega) (by omega) (by omega) rfl rfl Src.nil Src.nil (by simp) (by simp)).mono ?_
   rintro e w2 ⟨rfl, hb2, hg2⟩;rw [bU, bL] at hb2;go_wp2_with fail
   go_ret
   exact ⟨o1, c1, rfl, h1.2, L1.out, h1.1, by rw [V1.out]; omega, hb2, Gr.trans (Gr.drewN hg1 _) hg2⟩
set_option maxRecDepth 100000 in
theorem aBk (Az Ax Ay : Option Addr) (nz cz nx cx ny cy gz t off : Nat) (xs ys cs : List Nat) (w : World) (hb : Blk .u64 w gz t cs) (lx : xs.length = nx) (ly : ys.length = ny) (hyx : ny ≤ nx) (hoff : off + nx ≤ cs.length) (hz : 0 < nx → Az = some ⟨gz, off, none⟩) (hnz : nx ≤ nz) (hcz : nz ≤ cz) (hcx : nx ≤ cx) (hcy : ny ≤ cy) (hn : nx ≤ 1099511627776) (sx : Src w gz off Ax xs) (sy : Src w gz off Ay ys) (hx : ∀ d ∈ xs, d < W64) (hy : ∀ d ∈ ys, d < W64) : Calls Tryz.prog 213 #[.slice Az nz cz, .slice Ax nx cx, .slice Ay ny cy] w
   fun e w' => ∃ (o : List Nat) (c : Nat), e = .returned (.int .u64 (c : Int)) ∧ c ≤ 1 ∧ o.length = nx ∧ (∀ d ∈ o, d < W64) ∧ vl W64 xs + W64 ^ nx * c = vl W64 o + vl W64 ys ∧
    Blk .u64 w' gz t (cs.take off ++ o ++ cs.drop (off + nx)) ∧ w.grownBy w' (some gz) := by
 have LX := Lib.hid lx; have LY := Lib.hid ly; clear lx ly;have lt1 : (xs.take ny).length = ny := by rw [List.length_take, LX.out]; omega
 have lt2 : (xs.drop ny).length = nx - ny := by rw [List.length_drop, LX.out]
 have LT1 := Lib.hid lt1; have LT2 := Lib.hid lt2; clear lt1 lt2;go_enter Tryz.func213, Tryz.ntmps213
 go_wp2_with fail
 refine (aAj Az Ax Ay nz cz nx cx ny cy gz t off 0 (xs.take ny) ys cs w (by omega) hb (by omega) (fun h => hz (by omega)) (by omega) (by omega) hcy (by omega) LT1.out LY.out (sx.take ny) sy (aI hx) hy).mono ?_;rintro e w1 ⟨rfl, hb1, hg1⟩;have h1 := gV (b := W64) (P := (· ≤ 1)) sZ (c := 0) (by rw [LT1.out, LY.out]) (aI (n := ny) hx) hy (by omega);have v1 := pQ (b := W64) (q := 1) (P := (· ≤ 1)) sZ (fun x y c hx hy hc => by
  unfold dI; rw [aU] at *; simp only; split <;> omega) (c := 0) (by rw [LT1.out, LY.out]) (aI (n := ny) hx) hy (by omega)
 have l1 := aP dI (xs.take ny) ys 0 (by rw [LT1.out, LY.out]);rw [LT1.out] at l1 v1;have sx1 := sx.after hb hb1 hg1 l1 (by rw [LX.out]; omega) (by rw [LX.out]; exact hoff) (cap := cx) (by rw [LX.out]; exact hcx);generalize (aC dI (xs.take ny) ys 0).1 = o1 at *
 generalize (aC dI (xs.take ny) ys 0).2 = c1 at *
 have V1 := Lib.hid v1; have L1 := Lib.hid l1; clear v1 l1;rcases Nat.lt_or_ge ny nx with hlt | hge
 ·rw [if_neg (by omega)] at sx1;obtain rfl := hz (by omega);go_wp2_with fail
  go_quiet (fail)
  go_wp2_with fail
  have hl1 : (cs.take off ++ o1 ++ cs.drop (off + ny)).length = cs.length := aO L1.out (by omega);have hxd : ∀ d ∈ xs.drop ny, d < W64 := fA hx
  refine (mX _ _ _ (nz - ny) (cz - ny) (nx - ny) (cx - ny) (nx - ny) (cx - ny) gz t (off + ny) c1 (xs.drop ny) (xs.drop ny) (cs.take off ++ o1 ++ cs.drop (off + ny)) _ dJ (· ≤ 1) kW h1.2
   (fun x y c w1 _ _ hc _ => uN x y c w1 hc) (hb1.drewN _) (by rw [hl1]; omega) (fun _ => by simp) (by omega) (by omega) (by omega) (by omega) LT2.out LT2.out sx1 sx1 hxd hxd).mono ?_
  rintro e w2 ⟨rfl, hb2, hg2⟩;have h2 := gV (b := W64) (P := (· ≤ 1)) kW (c := c1) rfl hxd hxd h1.2;have v2 := pQ (b := W64) (q := 0) (P := (· ≤ 1)) kW (fun x y c hx hy hc => by
   unfold dJ; rw [aU] at *; simp only; split <;> omega) (c := c1) rfl hxd hxd h1.2
  have l2 := aP dJ (xs.drop ny) (xs.drop ny) c1 rfl;rw [LT2.out] at l2 v2;generalize (aC dJ (xs.drop ny) (xs.drop ny) c1).1 = o2 at *
  generalize (aC dJ (xs.drop ny) (xs.drop ny) c1).2 = c2 at *
  rw [pI L1.out l2 (by omega), show ny + (nx - ny) = nx by omega] at hb2;have V2 := Lib.hid v2; have L2 := Lib.hid l2; clear v2 l2 hl1;go_wp2_with fail
  go_ret
  refine ⟨o1 ++ o2, c2, rfl, h2.2, by rw [List.length_append, L1.out, L2.out]; omega, ?_, ?_, hb2, Gr.trans (Gr.drewN hg1 _) hg2⟩
  ·intro d hd;rcases List.mem_append.1 hd with hd | hd
   ·exact h1.1 d hd
   ·exact h2.1 d hd
  ·rw [fD, L1.out, bI W64 ny xs (by rw [LX.out]; exact hyx)];exact aBE hyx V1.out V2.out
 ·obtain rfl : nx = ny := (by omega);have ext : xs.take nx = xs := List.take_of_length_le (by rw [LX.out]; exact Nat.le_refl _);rw [ext] at V1;go_wp2_with fail
  go_quiet (fail)
  go_wp2_with fail
  all_goals
   refine (mX _ _ _ _ _ 0 _ 0 _ gz t (off + nx) c1 [] [] (cs.take off ++ o1 ++ cs.drop (off + nx)) _ dJ (· ≤ 1) kW h1.2
    (fun x y c w1 _ _ hc _ => uN x y c w1 hc) (hb1.drewN _) (by rw [aO L1.out (by omega)]; omega) (by omega) (by omega) (by omega) (by omega) (by omega) rfl rfl Src.nil Src.nil (by simp) (by simp)).mono ?_
   rintro e w2 ⟨rfl, hb2, hg2⟩;rw [bU, bL] at hb2;go_wp2_with fail
   go_ret
   exact ⟨o1, c1, rfl, h1.2, L1.out, h1.1, by rw [V1.out]; omega, hb2, Gr.trans (Gr.drewN hg1 _) hg2⟩
theorem zB (A B : Option Addr) (n c d : Nat) (xs ys : List Nat) (w : World) (lx : Hid (xs.length = n)) (ly : Hid (ys.length = n)) (hn : n ≤ 9223372036854775807) (rx : Rw w A xs) (ry : Rw w B ys) (wx : Wf W64 xs) (wy : Wf W64 ys) :
  Calls Tryz.prog 148 #[.slice A n c, .slice B n d] w fun e w' => e = .returned (.int .i64 (cmp (vl W64 xs) (vl W64 ys))) ∧ Q w w' := by
 go_enter Tryz.func148, Tryz.ntmps148
 go_wp2_with fail
 go_loopw [5] (fun i w1 => ∃ k : Nat, k ≤ n ∧ i = .int .i64 ((k : Int) - 1) ∧ xs.drop k = ys.drop k ∧ ∃ m, w1 = w.drewN m) (fun i _ => (intOf i + 1).toNat)
 case atStart => exact ⟨n, by omega, rfl, by rw [List.drop_of_length_le (by rw [lx.out]; omega), List.drop_of_length_le (by rw [ly.out]; omega)], 0, rfl⟩
 case round =>
  obtain ⟨k, hk, rfl, hdrop, m, rfl⟩ := hrel;have HD := Lib.hid hdrop; clear hdrop;by_cases hlt : 0 < k
  ·obtain ⟨j, rfl⟩ : ∃ j, k = j + 1 := ⟨k - 1, by omega⟩
   have jx : j < xs.length := (by rw [lx.out]; omega);have jy : j < ys.length := (by rw [ly.out]; omega);obtain ⟨b, o, rfl, hb, hcx⟩ := rx.at_ jx;obtain ⟨b2, o2, rfl, hb', hcy⟩ := ry.at_ jy;rw [show ((j + 1 : Nat) : Int) - 1 = (j : Int) from by omega];have HX := Lib.hid (List.getElem?_eq_getElem jx);have HY := Lib.hid (List.getElem?_eq_getElem jy);generalize xs[j] = x at *
   generalize ys[j] = y at *
   clear jx jy hb hb';rcases Nat.lt_trichotomy x y with h | h | h
   ·go_wp2_with fail
    go_quiet (fail)
    go_wp2_with fail
    go_ret
    exact ⟨by rw [fQ (kE wx.1 HD.out HX.out HY.out h)]; rfl, (by repeat (first | exact Q.refl _ | refine Q.drewN ?_ _))⟩
   ·subst h;go_wp2_with fail
    go_quiet (fail)
    go_wp2_with fail
    go_quiet (fail)
    go_wp2_with fail
    refine ⟨⟨j, by omega, rfl, ?_, _, rfl⟩, by simp [intOf]⟩;obtain ⟨jx, ex⟩ := List.getElem?_eq_some_iff.1 HX.out;obtain ⟨jy, ey⟩ := List.getElem?_eq_some_iff.1 HY.out;rw [List.drop_eq_getElem_cons jx, List.drop_eq_getElem_cons jy, ex, ey, HD.out]
   ·go_wp2_with fail
    go_quiet (fail)
    go_wp2_with fail
    go_quiet (fail)
    go_wp2_with fail
    go_ret
    exact ⟨by rw [gT (kE wy.1 HD.out.symm HY.out HX.out h)]; rfl, (by repeat (first | exact Q.refl _ | refine Q.drewN ?_ _))⟩
  ·obtain rfl : k = 0 := (by omega);rw [show ((0 : Nat) : Int) - 1 = -1 from by omega];go_wp2_with fail
   go_ret
   have e : xs = ys := (by simpa using HD.out);exact ⟨by rw [e, cmp_eq]; rfl, (by repeat (first | exact Q.refl _ | refine Q.drewN ?_ _))⟩
theorem aZ (x y : Value) (M N : Nat) (w : World) (hx : Nm w x M) (hy : Nm w y N) (hM : dg W64 M ≤ LIM) (hN : dg W64 N ≤ LIM) :
  Calls Tryz.prog 148 #[x, y] w fun e w' => e = .returned (.int .i64 (cmp M N)) ∧ Q w w' := by
 obtain ⟨A, c, xs, rfl, hc, rx, wx, rfl⟩ := hx;obtain ⟨B, d, ys, rfl, hd, ry, wy, rfl⟩ := hy;rw [← wx.len aB, aA] at hM;rw [← wy.len aB, aA] at hN;rcases Nat.lt_trichotomy xs.length ys.length with hlt | heq | hgt
 ·have h := Wf.len_lt (b := W64) (by decide) wx.1 wy.2 hlt;rw [fQ h];clear h;go_enter Tryz.func148, Tryz.ntmps148
  go_wp2_with fail
  go_ret
  exact ⟨rfl, Q.refl _⟩
 ·obtain ⟨n, hn⟩ : ∃ n, xs.length = n := ⟨_, rfl⟩
  have hn2 : ys.length = n := (by omega);rw [hn, hn2];exact zB A B n c d xs ys w hn hn2 (by omega) rx ry wx wy
 ·have h := Wf.len_lt (b := W64) (by decide) wy.1 wx.2 hgt;rw [gT h];clear h;go_enter Tryz.func148, Tryz.ntmps148
  go_wp2_with fail
  go_ret
  exact ⟨rfl, Q.refl _⟩
theorem vK (x : Value) (N : Nat) (w : World) (hx : Nm w x N) (hN : dg W64 N ≤ LIM) : Calls Tryz.prog 211 #[x] w (fU N w) := by
 obtain ⟨A, c, xs, rfl, hc, rx, wx, rfl⟩ := hx;rw [← wx.len aB] at hN;by_cases h0 : xs.length = 0
 ·obtain rfl : xs = [] := List.eq_nil_of_length_eq_zero h0;simp only [List.length_nil];clear h0;go_enter Tryz.func211, Tryz.ntmps211
  go_wp2_with fail
  go_ret
  exact ⟨_, rfl, Nm.zero _ _, Q.refl _, Nw.nil⟩
 ·have h1 : ((xs.length : Int) == 0) = false := beq_eq_false_iff_ne.2 (by omega);have hmk := aCd xs.length (xs.length : Int) rfl hN;rw [aA] at hN;have hb : Blk .u64 (w.alloc (.cells (zs .u64 xs.length) 140)) w.heap.size 140 (List.replicate xs.length 0) := Blk.made _ _ _;have rx1 : Rw (w.alloc (.cells (zs .u64 xs.length) 140)) A xs := rx.q ((Q.refl _).alloc _);clear h0;go_enter Tryz.func211, Tryz.ntmps211
  go_wp2_with (with_reducible refine fM rfl _ _ _ _ rfl 140 Tryz.underlying23 (by kernel_rfl) _ _ _ _ _ _ rfl rfl w.heap.size 0 140 (List.replicate xs.length 0) xs xs.length hb rx1 rfl (by omega) (fun _ => rfl) (by simp) ?_; intro w2 hb2 hg2)
  go_ret
  have e : (List.replicate xs.length 0).take 0 ++ xs.take xs.length ++ (List.replicate xs.length 0).drop (0 + xs.length) = xs := (by simp);rw [e] at hb2;refine ⟨_, rfl, Nm.of_rw (Rw.of_blk hb2) (Nat.le_refl _) (Nat.le_refl _) (by rw [List.take_length]; exact wx.2) wx.1 (by rw [List.take_length]), Q.gr ((Q.refl _).alloc _) hg2 (Nat.le_refl _), Nw.at_ (Nat.le_refl _)⟩
theorem qH (x y : Value) (M N : Nat) (w : World) (hx : Nm w x M) (hy : Nm w y N) (hM : dg W64 M + 1 ≤ LIM) (hN : dg W64 N + 1 ≤ LIM) :
  Calls Tryz.prog 172 #[x, y] w (fU (M + N) w) := by
 have hlen : dg W64 N ≤ dg W64 M ∨ dg W64 M < dg W64 N := by omega
 rcases hlen with hlen | hlen
 case' inl =>
  obtain ⟨A, c, xs, rfl, hc, rx, wx, rfl⟩ := hx;obtain ⟨B, d, ys, rfl, hd, ry, wy, rfl⟩ := hy;rw [← wx.len aB, ← wy.len aB] at hlen;rw [← wx.len aB] at hM;rw [← wy.len aB] at hN
 case' inr =>
  obtain ⟨B, d, ys, rfl, hd, ry, wy, rfl⟩ := hx;obtain ⟨A, c, xs, rfl, hc, rx, wx, rfl⟩ := hy;rw [← wx.len aB, ← wy.len aB] at hlen;rw [← wy.len aB] at hM;rw [← wx.len aB] at hN;rw [Nat.add_comm (vl W64 ys)]
 all_goals
  have hmk := iH (xs.length + 1) ((xs.length : Int) + 1) rfl (by omega);rw [aA] at hM hN;have hq1 : Q w (w.alloc (.cells (zs .u64 (xs.length + 1)) 140)) := (Q.refl _).alloc _;go_enter Tryz.func172, Tryz.ntmps172
  go_wp2_with fail
  refine (oQ _ A B (xs.length + 1) (xs.length + 1) xs.length c ys.length d w.heap.size 140 0 xs ys (List.replicate (xs.length + 1) 0) _ (Blk.made _ _ _) rfl rfl (by omega) (by simp) (fun _ => rfl) (by omega) (Nat.le_refl _) hc hd (by omega)
   (Src.old rx hq1 (Nat.le_refl _)) (Src.old ry hq1 (Nat.le_refl _)) wx.1 wy.1).mono ?_
  rintro e w1 ⟨o, cy, rfl, hcy, hol, hod, hv, hb1, hg1⟩;have e1 : (List.replicate (xs.length + 1) 0).take 0 ++ o ++ (List.replicate (xs.length + 1) 0).drop (0 + xs.length) = o ++ [0] := (by simp);rw [e1] at hb1;have hln : (o ++ [0]).length = xs.length + 1 := (by rw [List.length_append, hol]; rfl);obtain ⟨old, hcell⟩ := hb1.ex (i := xs.length) (by rw [hln]; omega);have hfz := hb1.frozen xs.length;have HV := Lib.hid hv; have HOL := Lib.hid hol; have HLN := Lib.hid hln;clear hv hol hln hmk;go_wp2_with fail
  have hb2 := hb1.put xs.length cy (e := (cy : Int)) rfl;have e2 : (o ++ [0]).set xs.length cy = o ++ [cy] := by
   rw [List.set_append, if_neg (by rw [HOL.out]; omega), HOL.out, Nat.sub_self]; rfl
  rw [e2] at hb2;have hod2 : ∀ d ∈ o ++ [cy], d < W64 := by
   intro d hd;rcases List.mem_append.1 hd with hd | hd
   ·exact hod d hd
   ·simp at hd; subst hd; rw [aU]; omega
  have hln2 : (o ++ [cy]).length = xs.length + 1 := (by rw [List.length_append, HOL.out]; rfl);refine (fH _ _ _ (o ++ [cy]) _ hln2 (Nat.le_refl _) (by omega) (Rw.of_blk hb2) hod2).mono ?_;rintro e w2 ⟨v, rfl, hnm, hnw, rfl⟩;rw [jA, HOL.out, HV.out] at hnm;go_wp2_with fail
  go_ret
  exact ⟨_, rfl, hnm, (Q.gr hq1 hg1 (Nat.le_refl _)).setCell (Nat.le_refl _) _, hnw _ (Nw.at_ (Nat.le_refl _))⟩
theorem rJ (x y : Value) (M N : Nat) (w : World) (hx : Nm w x M) (hy : Nm w y N) (hle : N ≤ M) (hM : dg W64 M ≤ LIM) :
  Calls Tryz.prog 171 #[x, y] w (fU (M - N) w) := by
 obtain ⟨A, c, xs, rfl, hc, rx, wx, rfl⟩ := hx;obtain ⟨B, d, ys, rfl, hd, ry, wy, rfl⟩ := hy;have hlen := Wf.len_le (by decide) wx wy hle;rw [← wx.len aB] at hM;have hmk := iH xs.length (xs.length : Int) rfl hM;rw [aA] at hM;have hq1 : Q w (w.alloc (.cells (zs .u64 xs.length) 140)) := (Q.refl _).alloc _;go_enter Tryz.func171, Tryz.ntmps171
 go_wp2_with fail
 refine (aBk _ A B xs.length xs.length xs.length c ys.length d w.heap.size 140 0 xs ys (List.replicate xs.length 0) _ (Blk.made _ _ _) rfl rfl hlen (by simp) (fun _ => rfl) (Nat.le_refl _) (Nat.le_refl _) hc hd (by omega)
  (Src.old rx hq1 (Nat.le_refl _)) (Src.old ry hq1 (Nat.le_refl _)) wx.1 wy.1).mono ?_
 rintro e w1 ⟨o, cy, rfl, hcy, hol, hod, hv, hb1, hg1⟩;have e1 : (List.replicate xs.length 0).take 0 ++ o ++ (List.replicate xs.length 0).drop (0 + xs.length) = o := by simp
 rw [e1] at hb1;have hfin := tQ hod hol hle hv;have HF := Lib.hid hfin; have HOL := Lib.hid hol;clear hv hol hmk hfin;go_wp2_with fail
 refine (fH _ _ _ o _ HOL.out (Nat.le_refl _) (by omega) (Rw.of_blk hb1) hod).mono ?_;rintro e w2 ⟨v, rfl, hnm, hnw, rfl⟩;rw [HF.out] at hnm;go_wp2_with fail
 go_ret
 exact ⟨_, rfl, hnm, Q.gr hq1 hg1 (Nat.le_refl _), hnw _ (Nw.at_ (Nat.le_refl _))⟩
theorem aEo {xs : List Nat} {n : Nat} (h : n < xs.length) (hz : Nz xs) : Nz (xs.drop n) := by
 unfold Nz at *
 rw [List.getLast?_drop, if_neg (by omega)];exact hz
theorem rM (x : Value) (N n : Nat) (z : Int) (w : World) (hx : Nm w x N) (hz : z = (n : Int)) (hN : dg W64 N ≤ LIM) (hn : n ≤ 4611686018427387904) :
  Calls Tryz.prog 169 #[x, .int .i64 z] w fun e w' => ∃ u v, e = .returned (.tuple #[u, v]) ∧ Nm w' u (N % W64 ^ n) ∧ Nm w' v (N / W64 ^ n) ∧ (∀ B, Nw B x → Nw B u ∧ Nw B v) ∧ Q w w' := by
 subst hz;obtain ⟨A, c, xs, rfl, hc, rx, wx, rfl⟩ := hx;rw [← wx.len aB, aA] at hN;by_cases hlt : xs.length ≤ n
 ·have h1 : vl W64 xs < W64 ^ n := Nat.lt_of_lt_of_le (bV wx.1) (Nat.pow_le_pow_right (by decide) hlt);rw [Nat.mod_eq_of_lt h1, Nat.div_eq_of_lt h1];clear h1;go_enter Tryz.func169, Tryz.ntmps169
  go_wp2_with fail
  go_ret2
  exact ⟨_, _, rfl, ⟨A, c, xs, rfl, hc, rx, wx, rfl⟩, Nm.zero _ _, fun B hB => ⟨hB, Nw.nil⟩, Q.refl _⟩
 ·rw [← gB (by decide) (by omega) wx.1, ← iR (by omega) wx.1];obtain ⟨b, o, rfl, hb, _⟩ := rx.head (by omega);go_enter Tryz.func169, Tryz.ntmps169
  go_wp2_with fail
  have rt := rx.take n;have rd := rx.drop (k := n) hc;rw [if_neg (by omega), Option.map_some, iG] at rd;have lt : (xs.take n).length = n := (by rw [List.length_take]; omega);have HLT := Lib.hid lt; clear lt;go_quiet ((go_at_call 142; refine Calls.quiet_of_same (v_trimmed' _ _ n _ (xs.take n) _ HLT.out (by omega) (by omega) rt (aI wx.1) rfl)))
  go_wp2_with fail
  go_ret2
  refine ⟨_, _, rfl, oP rt HLT.out (by omega) (aI wx.1), ⟨_, _, xs.drop n, by rw [List.length_drop]; rfl, by rw [List.length_drop]; omega, rd, ⟨fA wx.1, aEo (by omega) wx.2⟩, rfl⟩, fun B hB => ?_, (Q.refl _).drewN _⟩;have hB0 := hB _ _ _ rfl;exact ⟨yU (n := n) (Nw.at_ hB0), Nw.at_ hB0⟩
set_option maxRecDepth 100000 in
theorem gQ (x y : Value) (L H n : Nat) (z : Int) (w : World) (hx : Nm w x L) (hy : Nm w y H) (hz : z = (n : Int)) (hL : dg W64 L + 1 ≤ LIM) (hH : n + dg W64 H + 1 ≤ LIM) :
  Calls Tryz.prog 170 #[x, y, .int .i64 z] w (fU (L + H * W64 ^ n) w) := by
 subst hz;obtain ⟨A, c, xs, rfl, hc, rx, wx, rfl⟩ := hx;by_cases h0 : H = 0
 ·subst h0;obtain ⟨B, d, ys, rfl, hd, ry, wy, hys⟩ := hy;obtain rfl := wy.2.zero (by decide) hys;rw [Nat.zero_mul, Nat.add_zero];simp only [List.length_nil];go_enter Tryz.func170, Tryz.ntmps170
  go_wp2_with fail
  refine (vK _ _ _ (⟨A, c, xs, rfl, hc, rx, wx, rfl⟩ : Nm _ _ _) (by omega)).mono ?_;rintro e w1 ⟨v, rfl, hnm, hq, hnw⟩;go_wp2_with fail
  go_ret
  exact ⟨_, rfl, hnm, hq, hnw⟩
 ·obtain ⟨B, d, ys, rfl, hd, ry, wy, rfl⟩ := hy;rw [← wx.len aB] at hL;rw [← wy.len aB] at hH;have hy0 : 0 < ys.length := by
   rcases Nat.eq_zero_or_pos ys.length with e | e
   ·rw [List.eq_nil_of_length_eq_zero e] at h0; exact absurd rfl h0
   ·exact e
  have h02 : ((ys.length : Int) == 0) = false := (by rw [beq_eq_false_iff_ne]; omega);rw [aA] at hL hH;obtain ⟨K, hK⟩ : ∃ K : Nat, max (xs.length : Int) ((n : Int) + (ys.length : Int)) = (K : Int) := ⟨max xs.length (n + ys.length), by omega⟩
  have hK1 : xs.length ≤ K := (by omega);have hK2 : n + ys.length ≤ K := (by omega);have hmk := iH (K + 1) (max (xs.length : Int) ((n : Int) + (ys.length : Int)) + 1) (by omega) (by rw [aA]; omega);have hK3 : K + 1 ≤ 1099511627776 := (by omega);have HK := Lib.hid hK; clear hK;have hb0 : Blk .u64 (w.alloc (Obj.cells (zs .u64 (K + 1)) 140)) w.heap.size 140 (List.replicate (K + 1) 0) := Blk.made _ _ _;have hq0 : Q w (w.alloc (Obj.cells (zs .u64 (K + 1)) 140)) := (Q.refl _).alloc _;have rx1 := rx.q hq0;go_enter Tryz.func170, Tryz.ntmps170
  go_wp2_with (with_reducible refine fM rfl _ _ _ _ rfl 140 Tryz.underlying22 (by kernel_rfl) _ _ _ _ _ _ rfl rfl w.heap.size 0 140 (List.replicate (K + 1) 0) xs xs.length hb0 rx1 rfl (by omega) (fun _ => rfl) (by simp; omega) ?_; intro w2 hb2 hg2)
  have e1 : (List.replicate (K + 1) 0).take 0 ++ xs.take xs.length ++ (List.replicate (K + 1) 0).drop (0 + xs.length) = xs ++ List.replicate (K + 1 - xs.length) 0 := (by simp);rw [e1] at hb2;clear e1;have hq2 : Q w w2 := Q.gr hq0 hg2 (Nat.le_refl _);obtain ⟨cs, hcs⟩ : ∃ cs, xs ++ List.replicate (K + 1 - xs.length) 0 = cs := ⟨_, rfl⟩
  have hlc : cs.length = K + 1 := (by rw [← hcs, List.length_append, List.length_replicate]; omega);have hvc : vl W64 cs = vl W64 xs := (by rw [← hcs, nJ]);have hmc : ∀ d ∈ cs, d < W64 := (by rw [← hcs]; exact rC (by decide) wx.1);have ldr : (cs.drop n).length = K + 1 - n := (by rw [List.length_drop, hlc]);rw [hcs] at hb2;clear hcs;have so : Src w2 w.heap.size n (some ⟨w.heap.size, n, none⟩) (cs.drop n) := by
   have h := Src.own (off := n) (n := K + 1 - n) hb2
   rwa [List.take_of_length_le (by omega)] at h
  have sy := Src.old (g := w.heap.size) (off := n) ry hq2 (Nat.le_refl _);have HLC := Lib.hid hlc; have HVC := Lib.hid hvc; have LDR := Lib.hid ldr;have hnK : n + (K + 1 - n) ≤ cs.length := (by omega);clear hlc hvc ldr rx1 hb0 hmk;have hKn : ¬ K + 1 = n := (by omega);go_region_with (go_at_call 212; refine (oQ (some ⟨w.heap.size, n, none⟩) _ B _ _ (K + 1 - n) _ ys.length d w.heap.size 140 n (cs.drop n) ys cs _ (by exact hb2) LDR.out rfl (by omega) hnK (fun _ => rfl) (by omega) (by omega) (by omega) hd (by omega) (by exact so) (by exact sy) (fA hmc) wy.1).mono ?_; rintro e w3 ⟨o, cy, rfl, hcy, hol, hod, hv, hb3, hg3⟩)
  all_goals
   have e2 : cs.take n ++ o ++ cs.drop (n + (K + 1 - n)) = cs.take n ++ o := (by rw [List.drop_of_length_le (by rw [HLC.out]; omega), List.append_nil]);rw [e2] at hb3;have hfin := aD3 (b := W64) (cs := cs) (o := o) (by decide) HLC.out (by omega) HVC.out hv (Nat.lt_of_lt_of_le (bV wx.1) (Nat.pow_le_pow_right (by decide) hK1)) (aA8 (by decide) (bV wy.1) hK2);have hl3 : (cs.take n ++ o).length = K + 1 := (by rw [List.length_append, List.length_take, HLC.out, hol]; omega);have HFIN := Lib.hid hfin; have HL3 := Lib.hid hl3;clear hfin hl3 hv hol e2;go_wp2_with fail
   refine (fH _ _ _ (cs.take n ++ o) _ HL3.out (Nat.le_refl _) (by omega) (Rw.of_blk hb3) (gW (aI hmc) hod)).mono ?_;rintro e w4 ⟨v, rfl, hnm, hnw, rfl⟩;rw [HFIN.out, Nat.mul_comm] at hnm;go_wp2_with fail
   go_ret
   exact ⟨_, rfl, hnm, Q.gr hq2.drew hg3 (Nat.le_refl _), hnw _ (Nw.at_ (Nat.le_refl _))⟩
set_option maxRecDepth 100000 in
theorem cB (x : Value) (N k : Nat) (z : Int) (w : World) (hx : Nm w x N) (hz : z = (k : Int)) (hN : dg W64 N + k / 64 + 1 ≤ LIM) (hk : k ≤ 4611686018427387904) :
  Calls Tryz.prog 145 #[x, .int .i64 z] w (fU (N * 2 ^ k) w) := by
 subst hz;obtain ⟨A, c, xs, rfl, hc, rx, wx, rfl⟩ := hx;rw [← wx.len aB] at hN;by_cases h0 : xs.length = 0
 ·obtain rfl : xs = [] := List.eq_nil_of_length_eq_zero h0;simp only [List.length_nil];rw [show vl W64 [] * 2 ^ k = 0 from Nat.zero_mul _];clear h0;go_enter Tryz.func145, Tryz.ntmps145
  go_wp2_with fail
  go_ret
  exact ⟨_, rfl, Nm.zero _ _, Q.refl _, Nw.nil⟩
 ·have h02 : ((xs.length : Int) == 0) = false := (by rw [beq_eq_false_iff_ne]; omega);obtain ⟨m, hm⟩ : ∃ m : Nat, (k : Int) / 64 = (m : Int) := ⟨k / 64, by omega⟩
  obtain ⟨p, hp⟩ : ∃ p : Nat, (k : Int) % 64 = (p : Int) := ⟨k % 64, by omega⟩
  have hp64 : p < 64 := (by omega);obtain rfl : k / 64 = m := (by omega);obtain rfl : k % 64 = p := (by omega);have hsplit : W64 ^ (k / 64) * 2 ^ (k % 64) = 2 ^ k := wC k;generalize k / 64 = m at *
  generalize k % 64 = p at *
  have hmk := iH (m + xs.length + 1) ((m : Int) + (xs.length : Int) + 1) (by omega) (by omega);have hmk : ∀ w, _ := hmk;rw [aA] at hN;have HSP := Lib.hid hsplit; clear hsplit;go_enter Tryz.func145, Tryz.ntmps145
  go_wp2_with fail
  have hq1 : Q w ((w.alloc (.cells #[.int .u64 (p : Int)] 176)).alloc (.cells (zs .u64 (m + xs.length + 1)) 140)) := ((Q.refl _).alloc _).alloc _;have hb1 : Blk .u64 ((w.alloc (.cells #[.int .u64 (p : Int)] 176)).alloc (.cells (zs .u64 (m + xs.length + 1)) 140)) (w.heap.size + 1) 140 (List.replicate (m + xs.length + 1) 0) := by
   have h := Blk.made (κ := .u64) (w.alloc (.cells #[.int .u64 (p : Int)] 176)) 140 (m + xs.length + 1)
   rwa [World.size_alloc] at h
  have hc0 : ((w.alloc (.cells #[.int .u64 (p : Int)] 176)).alloc (.cells (zs .u64 (m + xs.length + 1)) 140)).cell? ⟨w.heap.size, 0, none⟩ = some (.int .u64 (p : Int)) := by
   rw [World.cell?_alloc_lt _ _ _ (by simp)];exact cO _ _ _
  generalize (w.alloc (.cells #[.int .u64 (p : Int)] 176)).alloc (.cells (zs .u64 (m + xs.length + 1)) 140) = w1 at *
  have hbox : ∀ w2 : World, w1.grownBy w2 (some (w.heap.size + 1)) → w2.cell? ⟨w.heap.size, 0, none⟩ = some (.int .u64 (p : Int)) := fun w2 hg => by
   have hlt := hb1.lt;rw [Gr.cell hg (p := ⟨w.heap.size, 0, none⟩) (by simp only; omega) (fun e => by simp only at e; omega)];exact hc0
  have sx1 : Src w1 (w.heap.size + 1) m A xs := Src.old rx hq1 (by omega)
  refine (zA (some ⟨w.heap.size + 1, m, none⟩) A A _ _ xs.length c xs.length c (w.heap.size + 1) 140 m 0 xs xs (List.replicate (m + xs.length + 1) 0) _ (.pointer (some ⟨w.heap.size, 0, none⟩)) (fun x _ c => shL p x c) (· < 2 ^ p) (xO p hp64) (Nat.pow_pos (by decide))
   (fun x y c w2 hx _ hc hg => aEm p x y c _ w2 hx hc hp64 (hbox w2 hg)) hb1 (by rw [List.length_replicate]; omega) (fun _ => rfl) (by omega) hc hc (by omega) rfl rfl sx1 sx1 wx.1 wx.1).mono ?_
  rintro e w2 ⟨rfl, hb2, hg2⟩;have h1 := gV (b := W64) (P := (· < 2 ^ p)) (xO p hp64) (c := 0) rfl wx.1 wx.1 (Nat.pow_pos (by decide));have v1 := lJ (b := W64) (p := 2 ^ p) (q := 0) (P := (· < 2 ^ p)) (xO p hp64) (aD4 p hp64) (c := 0) rfl wx.1 wx.1 (Nat.pow_pos (by decide));have l1 := aP (fun x _ c => shL p x c) xs xs 0 rfl;have hpw : 2 ^ p ≤ 2 ^ 63 := Nat.pow_le_pow_right (by decide) (by omega);generalize (aC (fun x _ c => shL p x c) xs xs 0).1 = o at *
  generalize (aC (fun x _ c => shL p x c) xs xs 0).2 = cy at *
  have hcy : cy < W64 := (by have := h1.2; rw [aU]; omega);have LO := Lib.hid l1; have V1 := Lib.hid v1; clear v1 l1 hpw;have lb : (List.take m (List.replicate (m + xs.length + 1) 0) ++ o ++ List.drop (m + xs.length) (List.replicate (m + xs.length + 1) 0)).length = m + xs.length + 1 := by
   rw [aO LO.out (by rw [List.length_replicate]; omega), List.length_replicate]
  obtain ⟨old, hold⟩ := hb2.ex (i := m + xs.length) (by rw [lb]; omega);have hfz := hb2.frozen (m + xs.length);clear lb;go_wp2_with fail
  have hb3 := hb2.put (m + xs.length) cy (e := (cy : Int)) rfl;rw [aA9 LO.out] at hb3;have hod : ∀ d ∈ List.replicate m 0 ++ (o ++ [cy]), d < W64 := by
   refine gW (cZ (by decide)) (gW h1.1 ?_);intro d hd; simp at hd; subst hd; exact hcy
  have hlo : (List.replicate m 0 ++ (o ++ [cy])).length = m + xs.length + 1 := (by simp [LO.out]; omega);have HV := Lib.hid (aCV (m := m) (k := 2 ^ k) LO.out (V1.out.trans (by rw [Nat.zero_mul]; rfl)) HSP.out);refine (fH _ _ _ (List.replicate m 0 ++ (o ++ [cy])) _ hlo (Nat.le_refl _) (by omega) (Rw.of_blk hb3) hod).mono ?_;rintro e w3 ⟨v, rfl, hnm, hnw, rfl⟩;rw [HV.out] at hnm;go_wp2_with fail
  go_ret
  exact ⟨_, rfl, hnm, (Q.gr hq1 hg2 (by omega)).setCell (by simp) _, hnw _ (Nw.at_ (by omega))⟩
theorem Gr.of_drew {a b : World} {g : Nat} (h : a.drew.grownBy b (some g)) : a.grownBy b (some g) := ⟨h.os, h.tape, h.output, h.size, h.block⟩
theorem zC (A1 A2 : Option Addr) (bx : Addr) (c1 c2 n gz t p xt : Nat) (zl : List Nat) (w : World) (hp : p < 64) (hxt : zl[n]? = some xt) (lz : zl.length = n + 1) (mz : ∀ d ∈ zl, d < W64) (hb : Blk .u64 w gz t (List.replicate (n + 1) 0)) (hbx : w.cell? bx = some (.int .u64 (p : Int))) (hlt : bx.block < w.heap.size) (hne : bx.block ≠ gz) (hc1 : n ≤ c1) (hc2 : n ≤ c2) (hn : n ≤ 1099511627776) (s1 : Src w gz 0 A1 (zl.drop 1)) (s2 : Src w gz 0 A2 (zl.take n)) : Calls Tryz.prog 183 #[.slice (some ⟨gz, 0, none⟩) (n + 1) (n + 1), .slice A1 n c1, .slice A2 n c2, .int .u64 0, .func (.func 189) #[] #[.pointer (some bx)]] w
   fun e w' => ∃ (o : List Nat) (v : Value), e = .returned v ∧ o ++ [xt / 2 ^ p] = iF p zl ∧ o.length = n ∧ Blk .u64 w' gz t (o ++ [0]) ∧ w.grownBy w' (some gz) := by
 have l1 : (zl.drop 1).length = n := by rw [List.length_drop, lz]; rfl
 have l2 : (zl.take n).length = n := by rw [List.length_take, lz]; omega
 refine (xC (some ⟨gz, 0, none⟩) A1 A2 (n + 1) (n + 1) n c1 n c2 gz t 0 0 (zl.drop 1) (zl.take n) (List.replicate (n + 1) 0) w (.pointer (some bx)) (fun x y _ => (shR p x y, 0)) (fun _ => True) (aEK p hp) trivial
  (fun x y c w2 hx hy _ hg => aDo p x y c bx w2 hx hy hp (by rw [Gr.cell hg hlt hne]; exact hbx)) hb (by rw [List.length_replicate]; omega) (fun _ => rfl) (by omega) hc1 hc2 hn l1 l2 s1 s2 (fA mz) (aI mz)).mono ?_
 rintro e w2 ⟨rfl, hb2, hg2⟩;have hrl := aP (fun x y _ => (shR p x y, 0)) (zl.drop 1) (zl.take n) 0 (by rw [l1, l2]);rw [l1] at hrl;obtain ⟨hx1, rfl⟩ := List.getElem?_eq_some_iff.1 hxt;refine ⟨_, _, rfl, xQ p zl n lz, hrl, ?_, hg2⟩;have e1 : (List.replicate (n + 1) (0 : Nat)).take 0 = [] := rfl;have e2 : (List.replicate (n + 1) (0 : Nat)).drop (0 + n) = [0] := by rw [List.drop_replicate, show n + 1 - (0 + n) = 1 by omega]; rfl
 rw [e1, e2, List.nil_append] at hb2;exact hb2
set_option maxRecDepth 100000 in
theorem bT (x : Value) (N k : Nat) (z : Int) (w : World) (hx : Nm w x N) (hz : z = (k : Int)) (hN : dg W64 N ≤ LIM) (hk : k ≤ 4611686018427387904) :
  Calls Tryz.prog 147 #[x, .int .i64 z] w (fU (N / 2 ^ k) w) := by
 subst hz;obtain ⟨A, c, xs, rfl, hc, rx, wx, rfl⟩ := hx;rw [← wx.len aB] at hN;obtain ⟨m, hm⟩ : ∃ m : Nat, (k : Int) / 64 = (m : Int) := ⟨k / 64, by omega⟩
 obtain ⟨p, hp⟩ : ∃ p : Nat, (k : Int) % 64 = (p : Int) := ⟨k % 64, by omega⟩
 have hp64 : p < 64 := by omega
 obtain rfl : k / 64 = m := by omega
 obtain rfl : k % 64 = p := by omega
 have hsplit : W64 ^ (k / 64) * 2 ^ (k % 64) = 2 ^ k := wC k;have hmk : k / 64 ≤ k := Nat.div_le_self _ _;generalize k / 64 = m at *
 generalize k % 64 = p at *
 rw [← hsplit, ← Nat.div_div_eq_div_mul];clear hsplit;by_cases h0 : xs.length ≤ m
 ·rw [Nat.div_eq_of_lt (Nat.lt_of_lt_of_le (bV wx.1) (Nat.pow_le_pow_right (by decide) h0)), Nat.zero_div];rw [aA] at hN;go_enter Tryz.func147, Tryz.ntmps147
  go_wp2_with fail
  go_ret
  exact ⟨_, rfl, Nm.zero _ _, (Q.refl _).alloc _, Nw.nil⟩
 ·obtain ⟨n, hn⟩ : ∃ n, xs.length = m + n + 1 := ⟨xs.length - m - 1, by omega⟩
  rw [← gB (by decide) (by omega) wx.1];have rz := rx.drop (k := m) hc;rw [if_neg (by omega)] at rz;obtain ⟨b, o, rfl, hb, hdummy⟩ := rx.head (by omega);rw [Option.map_some, iG] at rz;have lz : (xs.drop m).length = n + 1 := (by rw [List.length_drop, hn]; omega);have mz := fA (n := m) wx.1;rw [hn] at hN hc ⊢;clear hdummy rx wx hn h0;generalize xs.drop m = zl at *
  have hmk2 := iH (n + 1) ((n : Int) + 1) (by omega) (by rw [aA] at hN ⊢; omega);rw [aA] at hN;have hcn : ¬ m = c := (by omega);have hmn : m + n + 1 - m = n + 1 := (by omega);obtain ⟨cc, hcc⟩ : ∃ cc, c - m = cc := ⟨_, rfl⟩
  have hcn2 : n + 1 ≤ cc := (by omega);have hq1 : Q w ((w.alloc (.cells #[.int .u64 (p : Int)] 176)).alloc (.cells (zs .u64 (n + 1)) 140)) := ((Q.refl _).alloc _).alloc _;have hb1 : Blk .u64 ((w.alloc (.cells #[.int .u64 (p : Int)] 176)).alloc (.cells (zs .u64 (n + 1)) 140)) (w.heap.size + 1) 140 (List.replicate (n + 1) 0) := by
   have h := Blk.made (κ := .u64) (w.alloc (.cells #[.int .u64 (p : Int)] 176)) 140 (n + 1)
   rwa [World.size_alloc] at h
  have hc0 : ((w.alloc (.cells #[.int .u64 (p : Int)] 176)).alloc (.cells (zs .u64 (n + 1)) 140)).cell? ⟨w.heap.size, 0, none⟩ = some (.int .u64 (p : Int)) := by
   rw [World.cell?_alloc_lt _ _ _ (by simp)];exact cO _ _ _
  have rd := rz.drop (k := 1) (cap := cc) (by omega);have rt := rz.take n;obtain ⟨_, _, hA, _, hct⟩ := rz.at_ (k := n) (by omega);cases hA;have htop : zl[n]? = some (zl[n]'(by omega)) := List.getElem?_eq_getElem _;have LZ := Lib.hid lz;have hval := xP hp64 mz;have hlt := aAv hp64 mz;have htw : zl[n]'(by omega) < W64 := mz _ (List.getElem_mem _);have hsl := rZ p zl;rw [lz] at hsl;have HVAL := Lib.hid hval; have HSL := Lib.hid hsl;obtain ⟨xt, hxt⟩ : ∃ xt, zl[n]'(by omega) = xt := ⟨_, rfl⟩
  rw [hxt] at htop hct htw;have HTOP := Lib.hid htop;clear hxt;clear lz hval htop hsl;have hI1 : (1 : Int) ≤ (n : Int) + 1 := (by omega);have hI2 : (0 : Int) ≤ (n : Int) := (by omega);have hI3 : (n : Int) ≤ (cc : Int) := (by omega);have hI4 : (n : Int) + 1 ≤ (cc : Int) := (by omega);by_cases hc1 : cc = 1
  case' pos =>
   rw [if_pos hc1] at rd;have hI5 : (n : Int) ≤ 1 := by omega
  case' neg =>
   rw [if_neg hc1, Option.map_some, iG] at rd
  all_goals
   go_enter Tryz.func147, Tryz.ntmps147
   go_wp2_with fail
   generalize (w.alloc (.cells #[.int .u64 (p : Int)] 176)).alloc (.cells (zs .u64 (n + 1)) 140) = w1 at *
   have sd : Src w1 (w.heap.size + 1) 0 _ (zl.drop 1) := Src.old rd hq1 (by omega);have st : Src w1 (w.heap.size + 1) 0 _ (zl.take n) := Src.old rt hq1 (by omega);have hs1 : w.heap.size < w1.heap.size := (by have := hb1.lt; omega);go_region_held3 (fun _ => True) (exact trivial) (first | fail | (go_at_call 183; refine (zC _ _ ⟨w.heap.size, 0, none⟩ _ _ n (w.heap.size + 1) 140 p xt zl _ hp64 HTOP.out LZ.out mz (by exact hb1) (by exact hc0) (by exact hs1) (by exact Nat.ne_of_lt (Nat.lt_succ_self _)) (by omega) (by omega) (by omega) (by exact sd) (by exact st)).mono ?_; rintro e w2 ⟨o2, u, rfl, hrun, hol, hb2, hg2⟩))
  all_goals
   have hg2 := Gr.of_drew hg2;have hcx : w2.cell? ⟨b, o + m + n, none⟩ = some (.int .u64 (xt : Int)) := by
    rw [Gr.cell hg2 (p := ⟨b, o + m + n, none⟩) (by have := hq1.size; simp only; omega) (by simp only; omega)];exact (hq1.cell (p := ⟨b, o + m + n, none⟩) hb).trans hct
   have hbx : w2.cell? ⟨w.heap.size, 0, none⟩ = some (.int .u64 (p : Int)) := by
    rw [Gr.cell hg2 (p := ⟨w.heap.size, 0, none⟩) (by simp only; omega) (by simp only; omega)];exact hc0
   obtain ⟨old, hold⟩ := hb2.ex (i := n) (by rw [List.length_append, hol]; simp);have hfz := hb2.frozen n;have HOL := Lib.hid hol; have HRUN := Lib.hid hrun;clear hol hrun;go_wp2_with fail
   go_region
   go_wp2_with fail
  all_goals
   have hb3 := hb2.put n (xt / 2 ^ p) (e := (xt : Int) / 2 ^ p) (by rw [Int.natCast_ediv, Int.natCast_pow]; rfl);have e3 : (o2 ++ [0]).set n (xt / 2 ^ p) = iF p zl := by
    rw [← HRUN.out, List.set_append, if_neg (by rw [HOL.out]; omega), HOL.out, Nat.sub_self]; rfl
   rw [e3] at hb3;refine (fH _ _ _ (iF p zl) _ HSL.out (Nat.le_refl _) (by omega) (Rw.of_blk (w := (w2.setCell _ _).drew) hb3) hlt).mono ?_;rintro e w3 ⟨v, rfl, hnm, hnw, rfl⟩;have hv : vl W64 (iF p zl) = vl W64 zl / 2 ^ p := HVAL.out;rw [hv] at hnm;go_wp2_with fail
   go_ret
   exact ⟨_, rfl, hnm, ((Q.gr hq1 hg2 (by omega)).setCell (by simp) _).drew, hnw _ (Nw.at_ (by omega))⟩
def nR (M N : Nat) (w : World) (e : Ending) (w' : World) : Prop := ∃ u v, e = .returned (.tuple #[u, v]) ∧ Nm w' u (M / N) ∧ Nm w' v (M % N) ∧ Q w w' ∧ Nw w.heap.size u
theorem Me.Rw.part {w : World} {g t off n : Nat} {cs : List Nat} (hb : Blk .u64 w g t cs) : Rw w (some ⟨g, off, none⟩) ((cs.drop off).take n) := fun hn => by
 obtain ⟨b, o, h1, h2, _, h3⟩ := Src.own (off := off) (n := n) hb hn;exact ⟨b, o, h1, h2, h3⟩
theorem Me.Blk.gr {κ : IntKind} {w w' : World} {g k : Nat} {t : TypeId} {ds : List Nat} (h : Blk κ w g t ds) (hg : w.grownBy w' (some k)) (hne : g ≠ k) : Blk κ w' g t ds :=
 (Gr.heap hg h.lt hne).trans h
theorem Me.Blk.get {κ : IntKind} {w : World} {g i d : Nat} {t : TypeId} {ds : List Nat} (h : Blk κ w g t ds) (hd : ds[i]? = some d) : w.cell? ⟨g, i, none⟩ = some (.int κ (d : Int)) := by
 obtain ⟨hi, rfl⟩ := List.getElem?_eq_some_iff.1 hd;exact h.cell hi
theorem aBl {W M N n l : Nat} (hW : 1 < W) (hn : dg W M = n) (hl : dg W N = l) (h2 : 1 ≤ n) (hle : n ≤ l) : N < M * W ^ (l + 1 - n) ∧ 0 < M := by
 have h0 : 0 < M := by
  rcases Nat.eq_zero_or_pos M with h | h
  ·rw [h, aQ] at hn; omega
  ·exact h
 refine ⟨?_, h0⟩;have h1 : N < W ^ l := by rw [← hl]; exact aM hW N
 have h3 : W ^ (n - 1) ≤ M := by
  rcases Nat.lt_or_ge M (W ^ (n - 1)) with h | h
  ·have := (aD hW M (n - 1)).2 h; omega
  ·exact h
 have h4 : W ^ (n - 1) * W ^ (l + 1 - n) ≤ M * W ^ (l + 1 - n) := Nat.mul_le_mul_right _ h3;rw [← Nat.pow_add, show n - 1 + (l + 1 - n) = l by omega] at h4;omega
set_option maxRecDepth 100000 in
theorem zD (x y : Value) (N M : Nat) (w : World) (hx : Nm w x N) (hy : Nm w y M) (h2 : 2 ≤ dg W64 M) (hnorm : W64 ^ dg W64 M ≤ 2 * M) (hle : dg W64 M ≤ dg W64 N) (hN : dg W64 N + 1 ≤ LIM) :
  Calls Tryz.prog 234 #[x, y] w (nR N M w) := by
 obtain ⟨A, c, xs, rfl, hc, rx, wx, hvx⟩ := hx;obtain ⟨B, d, ys, rfl, hd, ry, wy, hvy⟩ := hy;have hlx := wx.len aB;have hly := wy.len aB;rw [hvx] at hlx;rw [hvy] at hly;rw [← hlx] at hle hN;rw [← hly] at h2 hle hnorm;obtain ⟨n, hn⟩ : ∃ n, ys.length = n := ⟨_, rfl⟩
 obtain ⟨J, hJ⟩ : ∃ J, xs.length + 1 - n = J := ⟨_, rfl⟩
 obtain ⟨l, hl⟩ : ∃ l, xs.length = l := ⟨_, rfl⟩
 rw [hl] at hle hN hlx hJ hc ⊢;rw [hn] at h2 hle hnorm hly hd ⊢;have hmk1 := iH (l + 1) ((l : Int) + 1) (by omega) hN;rw [aA] at hN;have hmk2 := iH J (((l : Int) + 1) - (n : Int)) (by omega) (by rw [aA]; omega);have hb : Blk .u64 (w.alloc (.cells (zs .u64 (l + 1)) 140)) w.heap.size 140 (List.replicate (l + 1) 0) := Blk.made _ _ _;have rx1 : Rw (w.alloc (.cells (zs .u64 (l + 1)) 140)) A xs := rx.q ((Q.refl _).alloc _);have HL := Lib.hid hl; have HN := Lib.hid hn; have HX := Lib.hid hvx; have HY := Lib.hid hvy;have HLX := Lib.hid hlx; have HLY := Lib.hid hly; have HNO := Lib.hid hnorm;clear hl hn hvx hvy hlx hly hnorm;go_enter Tryz.func234, Tryz.ntmps234
 go_wp2_with (with_reducible refine fM rfl _ _ _ _ rfl 140 Tryz.underlying22 (by kernel_rfl) _ _ _ _ _ _ rfl rfl w.heap.size 0 140 (List.replicate (l + 1) 0) xs l hb rx1 HL.out (by omega) (fun _ => rfl) (by simp) ?_; intro w2 hb2 hg2)
 have e1 : (List.replicate (l + 1) 0).take 0 ++ xs.take l ++ (List.replicate (l + 1) 0).drop (0 + l) = xs ++ [0] := by
  rw [List.take_of_length_le (l := xs) (by rw [HL.out]; omega)]; simp [List.drop_replicate]
 rw [e1] at hb2;clear e1 rx1 hb;have hq2 : Q w w2 := Q.gr ((Q.refl _).alloc _) hg2 (Nat.le_refl _);have hgs := hb2.lt;have hm0 : ∀ d ∈ xs ++ [0], d < W64 := gW wx.1 (by intro d hd; rw [List.mem_singleton.1 hd]; decide);have hv0 : vl W64 (xs ++ [0]) = N := by rw [jA, HX.out]; omega
 obtain ⟨hst, hM0⟩ := aBl aB HLY.out.symm HLX.out.symm (by omega) hle;go_wp2_with fail
 go_loopw [9] (fun iv w1 => ∃ (j : Nat) (cs qs : List Nat), iv = .int .i64 ((j : Int) - 1) ∧ j ≤ J ∧ cs.length = l + 1 ∧ qs.length = J ∧ (∀ d ∈ cs, d < W64) ∧ (∀ d ∈ qs, d < W64) ∧
     cs.drop (j + n) = List.replicate (l + 1 - (j + n)) 0 ∧ vl W64 cs < M * W64 ^ j ∧ vl W64 (qs.drop j) * W64 ^ j * M + vl W64 cs = N ∧
     Blk .u64 w1 w.heap.size 140 cs ∧ Blk .u64 w1 w2.heap.size 140 qs ∧ Q w w1) (fun iv _ => (intOf iv + 1).toNat)
 case atStart =>
  refine ⟨J, xs ++ [0], List.replicate J 0, rfl, by omega, by rw [List.length_append, HL.out]; rfl, by simp, hm0, cZ (by decide), ?_, ?_, ?_, hb2.alloc _, Blk.made _ _ _, hq2.alloc _⟩
  ·rw [List.drop_of_length_le (by rw [List.length_append, HL.out, List.length_singleton]; omega), show l + 1 - (J + n) = 0 by omega]; rfl
  ·rw [hv0, ← hJ]; exact hst
  ·rw [List.drop_of_length_le (by simp), hv0]; simp [vl]
 case round =>
  obtain ⟨j, cs, qs, rfl, hj, lc, lq, hcs, hqs, hz, hlt, hX, hbc, hbq, hq⟩ := hrel;have LC := Lib.hid lc; have LQ := Lib.hid lq; have HZ := Lib.hid hz; have HLT := Lib.hid hlt; have HXX := Lib.hid hX;clear lc lq hz hlt hX;by_cases hj0 : 0 < j
  ·obtain ⟨i, rfl⟩ : ∃ i, j = i + 1 := ⟨j - 1, by omega⟩
   rw [show ((i + 1 : Nat) : Int) - 1 = (i : Int) from by omega];have hin : i + n + 1 ≤ l + 1 := (by omega);have hLC := LC.out;have hpl : ((cs.drop i).take (n + 1)).length = n + 1 := (by rw [List.length_take, List.length_drop, hLC]; omega);have hPlt := aEb (b := W64) (by decide) LC.out hin HZ.out HLT.out;have htop := aDf (b := W64) LC.out hin;have hpg : cs[i + n]? = some (cs[i + n]'(by omega)) := List.getElem?_eq_getElem _;have hpn : cs[i + n]'(by omega) < W64 := hcs _ (List.getElem_mem _);generalize cs[i + n]'(by omega) = pn at htop hpg hpn;have hMC : vl W64 ys < W64 ^ n := (by rw [← HN.out]; exact bV wy.1);rw [HY.out] at hMC;obtain ⟨q, hqd⟩ : ∃ q, vl W64 ((cs.drop i).take (n + 1)) / M = q := ⟨_, rfl⟩
   obtain ⟨r, hrd⟩ : ∃ r, vl W64 ((cs.drop i).take (n + 1)) % M = r := ⟨_, rfl⟩
   have HPL := Lib.hid hpl; have HPLT := Lib.hid hPlt; have HTOP := Lib.hid htop; have HPG := Lib.hid hpg; have HPN := Lib.hid hpn; have HMC := Lib.hid hMC; have HQD := Lib.hid hqd; have HRD := Lib.hid hrd;clear hpl hPlt htop hpg hpn hMC hqd hrd hLC;go_wp2_with fail
   refine (aAk (some ⟨w.heap.size, i, none⟩) B n (i + n + 1 - i) (l + 1 - i) d ((cs.drop i).take (n + 1)) ys _ (Rw.part hbc) (ry.q hq) (by rw [HPL.out]; omega) HN.out (by omega) h2 (by omega)
    (aI (fA hcs)) wy.1 (by rw [HY.out]; exact HPLT.out) (by rw [HY.out]; exact HNO.out)).mono ?_
   rintro e w4 ⟨g, rfl, hg1, hg2', hgw, kk, rfl⟩;rw [HY.out, HQD.out] at hg1 hg2';have hbc4 := hbc.drewN kk;have hbq4 := hbq.drewN kk;have hq4 := hq.drewN kk;clear hbc hbq hq;generalize wr.drewN kk = w4 at *
   have HG := Lib.hid (And.intro hg1 hg2'); have HGW := Lib.hid hgw;clear hg1 hg2' hgw;go_wp2_with fail
   refine (aAm (some ⟨w.heap.size, i, none⟩) B n (l + 1 - i) n d w.heap.size 140 i g ys cs _ hbc4 HN.out (by rw [LC.out]; omega) (fun _ => rfl) (by omega) hd (by omega) (Src.old ry hq4 (Nat.le_refl _)) wy.1 hcs HGW.out).mono ?_;rintro e w5 ⟨o, bo, rfl, hbo, lo, ho, hv, hb5, hg5⟩;have hbq5 := hbq4.gr hg5 (by omega);have hq5 := Q.gr hq4 hg5 (Nat.le_refl _);rw [HY.out] at hv;have hstep := aBP HMC.out HTOP.out HQD.out HRD.out HG.out.1 HG.out.2 hM0 hv (by rw [← lo]; exact bV ho);have hget : (cs.take i ++ o ++ cs.drop (i + n))[i + n]? = some pn := (by rw [oD lo (by rw [LC.out]; omega) (by omega)]; exact HPG.out);have hlen5 : (cs.take i ++ o ++ cs.drop (i + n)).length = l + 1 := (by rw [aO lo (by rw [LC.out]; omega)]; exact LC.out);have hcell := hb5.get hget;have hst5 := aAg lo (show i + n ≤ cs.length by rw [LC.out]; omega);have hse := nL lo LC.out hin HZ.out;have hcs5 : ∀ d ∈ cs.take i ++ o ++ cs.drop (i + n), d < W64 := gW (gW (aI hcs) ho) (fA hcs);have LO := Lib.hid lo; have HLEN := Lib.hid hlen5; have HST := Lib.hid hst5; have HSE := Lib.hid hse; have HV := Lib.hid hv; have HSTEP := Lib.hid hstep;clear lo hget hlen5 hst5 hse hv hstep hbq4 hq4 hbc4 hg5;obtain ⟨oq, hcq⟩ := hbq5.ex (i := i) (by rw [LQ.out]; omega);have hfq := hbq5.frozen i;have hfl := hb5.frozen (i + n);rcases Nat.lt_or_ge pn bo with hlt | hge
   ·have hlt' : (pn : Int) < (bo : Int) := (by omega);have hs2 := HSTEP.out.2 hlt;have hgq : (g : Int) - 1 = (q : Int) := (by omega);have hqw : IntKind.u64.wrap (q : Int) = (q : Int) := aJ (by have := HGW.out; rw [aU] at this; omega);have HS2 := Lib.hid hs2; clear hs2 hlt;have so : Src w5 w.heap.size i (some ⟨w.heap.size, i, none⟩) o := by
     have h := Src.own (off := i) (n := n) hb5
     rwa [HST.out.2.2] at h
    have sy := Src.old (g := w.heap.size) (off := i) ry hq5 (Nat.le_refl _);have hcap : (n : Int) ≤ ((l + 1 - i : Nat) : Int) := (by omega);have hcap2 : n ≤ l + 1 - i := (by omega);go_wp2_with fail
    go_region_held3 (fun _ => True) (exact trivial) (first | fail | (go_at_call 212; refine (oQ (some ⟨w.heap.size, i, none⟩) (some ⟨w.heap.size, i, none⟩) B n (l + 1 - i) n (l + 1 - i) n d w.heap.size 140 i o ys (cs.take i ++ o ++ cs.drop (i + n)) _ (by exact hb5) LO.out HN.out (Nat.le_refl _) (by rw [HLEN.out]; omega) (fun _ => rfl) (Nat.le_refl _) (by omega) (by omega) hd (by omega) (by exact so) (by exact sy) ho wy.1).mono ?_; rintro e w6 ⟨o2, c2, rfl, hc2, lo2, ho2, hv2, hb6, hg6⟩))
    all_goals
     rw [HST.out.1, HST.out.2.1] at hb6;have hg6' : w5.grownBy w6 (some w.heap.size) := Gr.of_drew hg6;have hbq6 := hbq5.gr hg6' (by omega);have hq6 := Q.gr hq5 hg6' (Nat.le_refl _);obtain ⟨c1, hc1⟩ := HS2.out.2;have hor : vl W64 o2 = r := by
      have hv2' := hv2;rw [HY.out] at hv2';exact aCW hc1 hv2'.symm (by rw [← HRD.out]; exact Nat.lt_trans (Nat.mod_lt _ hM0) HMC.out) (by rw [← lo2]; exact bV ho2)
     have hnx := wL (qs := qs) (by decide) hM0 LC.out hin HZ.out hcs HXX.out (by rw [LQ.out]; omega) lo2 ho2 (by rw [hor]; exact HRD.out.symm) HQD.out;have hl6 : (cs.take i ++ o2 ++ cs.drop (i + n)).length = l + 1 := (by rw [aO lo2 (by rw [LC.out]; omega)]; exact LC.out);obtain ⟨pn6, hcell6⟩ := hb6.ex (i := i + n) (by rw [hl6]; omega);have hfl6 := hb6.frozen (i + n);obtain ⟨oq6, hcq6⟩ := hbq6.ex (i := i) (by rw [LQ.out]; omega);have hfq6 := hbq6.frozen i;have hqlt : q < W64 := (by have h1 := HS2.out.1; have h2 := HGW.out; omega);have hse6 := nL lo2 LC.out hin HZ.out;have HNX := Lib.hid hnx; have HSE6 := Lib.hid hse6; have HQL := Lib.hid hqlt;clear hnx hse6 hqlt hor hl6 hv2 lo2 hc1 hcell hcq hfq hfl;go_wp2_with fail
     have hb7 := hb6.put (i + n) 0 (e := 0) rfl;rw [HSE6.out] at hb7;have hnx := HNX.out
     refine ⟨⟨i, _, qs.set i q, rfl, by omega, hnx.1, by rw [List.length_set, LQ.out], hnx.2.2.1, bY hqs HQL.out, hnx.2.1, hnx.2.2.2.1, hnx.2.2.2.2,
      hb7.far (by simp only; omega) _, (hbq6.far (by simp only; omega) _).set_ i q, (hq6.setCell (Nat.le_refl _) _).setCell (by simp only; omega) _⟩, by simp [intOf]⟩
   ·have hge' : ¬ (pn : Int) < (bo : Int) := (by omega);go_wp2_with fail
    obtain ⟨hgq, hor⟩ := HSTEP.out.1 hge;have hnx := wL (qs := qs) (by decide) hM0 LC.out hin HZ.out hcs HXX.out (by rw [LQ.out]; omega) LO.out ho (by rw [hor]; exact HRD.out.symm) HQD.out;have hb6 := hb5.put (i + n) 0 (e := 0) rfl;rw [HSE.out] at hb6;have hqw : q < W64 := (by rw [← hgq]; exact HGW.out);rw [← hgq] at hnx hqw
    refine ⟨⟨i, _, qs.set i g, rfl, by omega, hnx.1, by rw [List.length_set, LQ.out], hnx.2.2.1, bY hqs hqw, hnx.2.1, hnx.2.2.2.1, hnx.2.2.2.2,
     hb6.far (by simp only; omega) _, (hbq5.far (by simp only; omega) _).set_ i g, (hq5.setCell (Nat.le_refl _) _).setCell (by simp only; omega) _⟩, by simp [intOf]⟩
  ·obtain rfl : j = 0 := (by omega);rw [show ((0 : Nat) : Int) - 1 = -1 from by omega];go_wp2_with fail
   have hfin := lI (M := N) (N := M) (Qt := vl W64 qs) (R := vl W64 cs) (by rw [← HXX.out]; simp) (by have := HLT.out; simpa using this);refine (fH _ J J qs _ LQ.out (Nat.le_refl _) (by omega) (Rw.of_blk hbq) hqs).mono ?_;rintro e w5 ⟨u, rfl, hu, hnu, rfl⟩;go_wp2_with fail
   refine (fH _ (l + 1) (l + 1) cs _ LC.out (Nat.le_refl _) (by omega) (Rw.of_blk hbc) hcs).mono ?_;rintro e w6 ⟨v, rfl, hv, hnv, rfl⟩;go_wp2_with fail
   go_ret2
   exact ⟨u, v, rfl, by rw [hfin.1]; exact hu, by rw [hfin.2]; exact hv, hq, hnu _ (Nw.at_ (by omega))⟩
set_option maxRecDepth 100000 in
theorem xD (x y : Value) (M N : Nat) (w : World) (hx : Nm w x M) (hy : Nm w y N) (h : dg W64 M + dg W64 N ≤ LIM) :
  Calls Tryz.prog 168 #[x, y] w (fU (M * N) w) := by
 obtain ⟨A, c, xs, rfl, hc, rx, wx, rfl⟩ := hx;obtain ⟨B, d, ys, rfl, hd, ry, wy, rfl⟩ := hy;rw [← wx.len aB, ← wy.len aB] at h;have hmk := iH (xs.length + ys.length) ((xs.length : Int) + (ys.length : Int)) (by omega) h;rw [aA] at h;obtain ⟨ny, hny⟩ : ∃ ny, ys.length = ny := ⟨_, rfl⟩
 rw [hny] at h hmk ⊢;have HNY := Lib.hid hny;go_enter Tryz.func168, Tryz.ntmps168
 go_wp2_with fail
 go_loopw [16] (fun iv w1 => ∃ (i : Nat) (cs : List Nat), i ≤ ny ∧ iv = .int .i64 (i : Int) ∧ cs.length = xs.length + ny ∧ (∀ d ∈ cs, d < W64) ∧
  cs.drop (xs.length + i) = List.replicate (ny - i) 0 ∧ vl W64 cs = vl W64 xs * vl W64 (ys.take i) ∧ Blk .u64 w1 w.heap.size 140 cs ∧ Q w w1) (fun iv _ => ny - (intOf iv).toNat)
 case atStart =>
  refine ⟨0, List.replicate (xs.length + ny) 0, by omega, rfl, by simp, cZ (by decide), by simp, by rw [iD]; simp [vl], Blk.made _ _ _, (Q.refl _).alloc _⟩
 case round =>
  obtain ⟨i, cs, hi, rfl, hlc, hm, hdz, hv, hb, hq⟩ := hrel;by_cases hlt : i < ny
  ·have hiy : i < ys.length := (by rw [HNY.out]; exact hlt);obtain ⟨b, o, rfl, hbk, hcy⟩ := (ry.q hq).at_ hiy;have hyw : ys[i] < W64 := wy.1 _ (List.getElem_mem _);have hvt := dZ W64 hiy;generalize ys[i] = y0 at *
   have HV := Lib.hid hv; have HVT := Lib.hid hvt; have HLC := Lib.hid hlc;have hI1 : (i : Int) ≤ (xs.length : Int) + (ny : Int) := (by omega);have hci : ¬ xs.length + ny = i ∨ xs.length + ny = i := (by omega);have hoff : i + xs.length ≤ cs.length := (by omega);clear hv hvt hmk hlc hny;go_wp2_with fail
   have sx : Src wr w.heap.size i A xs := Src.old rx hq (Nat.le_refl _);refine (aAl (some ⟨w.heap.size, i, none⟩) A _ _ xs.length c w.heap.size 140 i y0 xs cs _ hb rfl hoff (fun _ => rfl) (by omega) hc (by omega) sx wx.1 hm hyw).mono ?_;rintro e w2 ⟨o2, c2, rfl, hc2, hol, hod, hv2, hb2, hg2⟩;obtain ⟨cs', hcs', hl', hz', hvl', hform⟩ := aD5 (c := c2) HLC.out hlt hol hdz hv2 HV.out;have hm' : ∀ d ∈ cs', d < W64 := by
    rw [hform];refine gW (gW (aI hm) (gW hod ?_)) (cZ (by decide));intro d hd; simp at hd; subst hd; exact hc2
   have hlb : (cs.take i ++ o2 ++ cs.drop (i + xs.length)).length = xs.length + ny := (by rw [aO hol hoff, HLC.out]);obtain ⟨old, hold⟩ := hb2.ex (i := xs.length + i) (by rw [hlb]; omega);have hfz := hb2.frozen (xs.length + i);have HCS := Lib.hid hcs'; have HL := Lib.hid hl'; have HVL := Lib.hid hvl';clear hv2 hol hlb hcs' hl' hvl' hform;go_wp2_with fail
   have hb3 := hb2.put (xs.length + i) c2 (e := (c2 : Int)) rfl;rw [HCS.out] at hb3;exact ⟨⟨i + 1, cs', by omega, congrArg (Value.int _) (by omega), HL.out, hm', hz', by rw [HVL.out, HVT.out, Nat.mul_add, Nat.mul_comm y0, Nat.mul_left_comm], hb3, (Q.gr hq hg2 (Nat.le_refl _)).setCell (Nat.le_refl _) _⟩, by simp [intOf]; omega⟩
  ·obtain rfl : i = ny := (by omega);have HV := Lib.hid hv; clear hv hmk;go_wp2_with fail
   refine (fH _ _ _ cs _ hlc (Nat.le_refl _) (by omega) (Rw.of_blk hb) hm).mono ?_;rintro e w3 ⟨v, rfl, hnm, hnw, rfl⟩;rw [HV.out, List.take_of_length_le (by rw [HNY.out]; omega)] at hnm;go_wp2_with fail
   go_ret
   exact ⟨_, rfl, hnm, hq, hnw _ (Nw.at_ (Nat.le_refl _))⟩
end Go.Proofs.YtgpacgadpnpjjaaGreatDoor
