/- x. Part of the proof: texts Rb2 Kc4 Kd3. -/
import Derived.Deep.LoopGhost
import Derived.Lib.IndexBytes
import Derived.Test.YtgokbhikgdhmpaaGreatDoorQy01
import Derived.Test.YtgokbhikgdhmpaaGreatDoorQy02
import Derived.Test.YtgokbhikgdhmpaaGreatDoorQy03
import Derived.Test.YtgokbhikgdhmpaaGreatDoorQy04
import Derived.Test.YtgokbhikgdhmpaaGreatDoorQy24
import Derived.Test.YtgokbhikgdhmpaaGreatDoorQy26
import Derived.Test.YtgokbhikgdhmpaaGreatDoorQy27
import Derived.Test.YtgokbhikgdhmpaaGreatDoorQy28
set_option maxHeartbeats 4000000
namespace Go.Proofs.YtgokbhikgdhmpaaGreatDoor
open Go.RowKit
open Ma Me
theorem aDK (W : World) (E : Int) : (convert 166 9 (.slice (some ⟨W.heap.size, 0, none⟩) 1 1)).run Tryz.prog (W.alloc (.cells #[.int .u8 E] 5)) =
  .ok (.string (strOfNums [E])) (W.alloc (.cells #[.int .u8 E] 5)) := by
 refine run_convert_bytes_arg (P := Tryz.prog) _ 166 5 Tryz.underlying166 Tryz.underlying5 _ 0 1 1 [E] rfl ?_ 9 Tryz.underlying9;intro i hi;obtain rfl : i = 0 := by omega
 exact dU _ _ _
theorem aBR (q : Nat) (p : ByteArray) (E : Int) (hE : E = ((48 + q : Nat) : Int)) : (strOfNums [E] ++ p).data.toList = dig q :: p.data.toList := by
 subst hE;rw [ByteArray.data_append, Array.toList_append, strOfNums_data];simp only [List.map_cons, List.map_nil, Int.toNat_natCast];rfl
theorem kU (E : Int) : (strOfNums [E]).size = 1 := by rw [strOfNums_size]; rfl
set_option maxRecDepth 100000 in
theorem uC (x : Value) (N : Nat) (w : World) (hx : Nr w x N) (lN : dg B30 N + 1 ≤ LIM) :
  Calls Tryz.prog 119 #[x] w fun e w' => ∃ t : ByteArray, e = .returned (.string t) ∧ t.data.toList = dec N ∧ Q w w' := by
 obtain ⟨A, c, xs, rfl, hc, rx, wx, hv⟩ := hx;have hl := wx.len aH;rw [hv] at hl;rcases Nat.eq_zero_or_pos N with h0 | h0
 ·subst h0;rw [aV] at hl;have h1 : ((xs.length : Int) == 0) = true := (by rw [hl]; rfl);clear hl;go_enter Tryz.func119, Tryz.ntmps119
  go_wp2_with fail
  go_ret
  exact ⟨_, rfl, by rw [bW (by decide)]; rfl, Q.refl _⟩
 ·have h1 : ((xs.length : Int) == 0) = false := by
   refine beq_eq_false_iff_ne.2 ?_;have : dg B30 N ≠ 0 := fun h => (by have := bK aH h; omega);omega
  rw [aA] at lN;have hL : xs.length + 1 ≤ 1099511627776 := (by omega);have hx0 : Nr w (.slice A xs.length c) N := ⟨A, c, xs, rfl, hc, rx, wx, hv⟩
  clear hl hv rx wx;go_enter Tryz.func119, Tryz.ntmps119
  go_wp2_with fail
  go_loopg [0, 3] N (fun gk av sv w1 => ∃ (t : ByteArray), sv = .string t ∧ t.size ≤ 10995116277760 ∧ Nr w1 av gk ∧ dg B30 gk + 1 ≤ 1099511627776 ∧ (0 < gk ∧ dec N = dec gk ++ t.data.toList ∨ gk = 0 ∧ dec N = t.data.toList) ∧ Q w w1)
  case atStart => exact ⟨ByteArray.empty, rfl, by simp, hx0, lN, Or.inl ⟨h0, by simp⟩, Q.refl _⟩
  case round =>
   obtain ⟨w1, rfl⟩ : ∃ w1 : World, w1 = wr := ⟨_, rfl⟩
   obtain ⟨t, rfl, hts, hav, hlg, hdec, hq⟩ := hrel;obtain ⟨A1, c1, ds, rfl, hc1, rd, wd, hvd⟩ := hav;have HV := Lib.hid hvd; clear hvd;have hl := wd.len aH;rw [HV.out] at hl;have HDEC := Lib.hid hdec; clear hdec;rcases Nat.eq_zero_or_pos gk with hg | hg
   ·have hd0 : ds.length ≤ 0 := (by rw [hl, hg, aV]; exact Nat.le_refl _);clear hl;go_wp2_with fail
    go_ret
    refine ⟨_, rfl, ?_, hq⟩;rcases HDEC.out with ⟨h, _⟩ | ⟨_, h⟩
    ·omega
    ·exact h.symm
   ·have hd0 : 0 < ds.length := by
     have : dg B30 gk ≠ 0 := fun h => (by have := bK aH h; omega);omega
    have hmk := pY ds.length (ds.length : Int) rfl (by rw [aA]; omega);have hlm : ds.length ≤ 1099511627776 := (by omega);clear hl;go_wp2_with fail
    clear hmk
    go_loopw [5, 6] (fun rv iv w2 => ∃ (j r : Nat) (out : List Nat), j ≤ ds.length ∧ iv = .int .i64 ((j : Int) - 1) ∧ rv = .int .i64 (r : Int) ∧ r < 1000000000 ∧
     vl B30 (ds.drop j) = vl B30 (out.drop j) * 1000000000 + r ∧ out.length = ds.length ∧ (∀ d ∈ out, d < B30) ∧ Blk .i64 w2 w1.heap.size 2 out ∧ Q w1 w2) (fun _ iv _ => (intOf iv + 1).toNat)
    case atStart => exact ⟨ds.length, 0, List.replicate ds.length 0, by omega, rfl, rfl, by omega, by simp [vl], by simp, dV (by decide), Blk.made _ _ _, (Q.refl _).alloc _⟩
    case round =>
     obtain ⟨j, r, out, hj, rfl, rfl, hr, hv, hlo, ho, hb, hq2⟩ := hrel;have HV2 := Lib.hid hv; clear hv;have HLO := Lib.hid hlo; clear hlo;by_cases hlt : 0 < j
     ·obtain ⟨i, rfl⟩ : ∃ i, j = i + 1 := ⟨j - 1, by omega⟩
      rw [show ((i + 1 : Nat) : Int) - 1 = (i : Int) from by omega];obtain ⟨ad, rfl, hbx, hcx⟩ := (rd.below hq2).at_ (k := i) (by omega);have bx : ds[i] < 1073741824 := wd.1 _ (List.getElem_mem _);have HD := Lib.hid (dG B30 (show i < ds.length by omega));generalize ds[i] = a at *
      have hcell := hb.cell (i := i) (by rw [HLO.out]; omega);have hfz := hb.frozen i;go_wp2_with fail
      refine ⟨⟨i, (r * B30 + a) % 1000000000, out.set i ((r * B30 + a) / 1000000000), by omega, rfl, congrArg (Value.int _) (by rw [aR]; omega), by omega, ?_, by rw [List.length_set, HLO.out],
       dO ho (by rw [aR]; omega), hb.put i _ (by rw [aR]; omega), hq2.setCell (Nat.le_refl _) _⟩, by simp [intOf]⟩
      rw [HD.out, HV2.out, dG B30 (ds := out.set i ((r * B30 + a) / 1000000000)) (j := i) (by rw [List.length_set, HLO.out]; omega), List.getElem_set_self, drop_set (by omega)];refine vE (V := 1000000000) ?_;rw [Nat.mul_comm B30 r, Nat.mul_comm]; omega
     ·obtain rfl : j = 0 := (by omega);rw [show ((0 : Nat) : Int) - 1 = -1 from by omega];go_wp2_with fail
      refine (mU _ _ (w1.heap.size + 1) _ _ _ HLO.out (Nat.le_refl _) (by omega) (hb.rd (Nat.lt_succ_self _))).mono ?_;rintro e w3 ⟨k3, hk3, rfl, hnz3, hv3, rfl⟩;have hfin := HV2.out;rw [List.drop_zero, List.drop_zero, HV.out] at hfin;have hqv : Nr wr (.slice (some ⟨w1.heap.size, 0, none⟩) k3 ds.length) (vl B30 out) :=
       Nn.of_blk hb hk3 (by rw [HLO.out] at hk3; exact hk3) hnz3 ho (hv3 _)
      have hk3' : k3 = dg B30 (vl B30 out) := by
       have h1 := Wf.len (b := B30) aH (xs := out.take k3) ⟨aO ho, hnz3⟩;rw [hv3, List.length_take, Nat.min_eq_left hk3] at h1;exact h1
      generalize vl B30 out = G at *
      have HK := Lib.hid hk3';have HF := Lib.hid hfin;clear hk3' hfin hv3 hnz3 hk3 hb;clear hd0;have hqq := hq.trans hq2;go_wp2_with fail
      rcases Nat.eq_zero_or_pos G with hG | hG
      ·have hk0 : k3 ≤ 0 := (by rw [HK.out, hG, aV]; exact Nat.le_refl _);have hr0 : 0 < r := (by have := HF.out; rw [hG] at this; omega);have hrg : gk = r := (by have := HF.out; rw [hG] at this; omega);have HRG := Lib.hid hrg; have HGZ := Lib.hid hG; clear hrg hG;obtain ⟨wo, rfl⟩ : ∃ wo : World, wo = wr := ⟨_, rfl⟩
       go_loopw [5, 7, 8] (fun rv pv iv w4 => ∃ (i q : Nat) (p : ByteArray), i ≤ 9 ∧ iv = .int .i64 (i : Int) ∧ rv = .int .i64 (q : Int) ∧ pv = .string p ∧ q = r / 10 ^ i ∧ q < 1000000000 ∧ (0 < q ∧ dec r = dec q ++ p.data.toList ∨ q = 0 ∧ dec r = p.data.toList) ∧ p.size = i ∧ Q wo w4) (fun _ _ iv _ => 9 - (intOf iv).toNat)
       case atStart => exact ⟨0, r, ByteArray.empty, by omega, rfl, rfl, rfl, by simp, hr, Or.inl ⟨hr0, by simp⟩, rfl, Q.refl _⟩
       case round =>
        obtain ⟨i, q, p, hi, rfl, rfl, rfl, hq0, hq9, hp, hps, hq4⟩ := hrel;have HQ := Lib.hid hq0; have HP := Lib.hid hp; have HPS := Lib.hid hps; clear hq0 hp hps;have hq00 : 9 ≤ i → q = 0 := by
         intro h;obtain rfl : i = 9 := (by omega);rw [HQ.out]; exact Nat.div_eq_of_lt hr
        rcases Nat.eq_zero_or_pos q with hqz | hqz
        ·have hps9 : p.size ≤ 9 := (by rw [HPS.out]; exact hi);have hdr : dec r = p.data.toList := by
          rcases HP.out with ⟨h, _⟩ | ⟨_, h⟩
          ·omega
          ·exact h
         have hnew : dec N = (p ++ t).data.toList := by
          rw [ByteArray.data_append, Array.toList_append, ← hdr, ← HRG.out];rcases HDEC.out with ⟨_, h⟩ | ⟨h, _⟩
          ·exact h
          ·omega
         have hsz : (p ++ t).size ≤ 10995116277760 := by
          have h1 := congrArg List.length hnew;rw [fF, if_neg (by omega)] at h1;have h3 : (p ++ t).data.toList.length = (p ++ t).size := (by rw [Array.length_toList]; rfl);have h2 : dg 10 N ≤ 10 * dg B30 N := by
           refine fI (by decide) ?_;rw [Nat.pow_mul];exact Nat.lt_of_lt_of_le (aS aH N) (Nat.pow_le_pow_left (by decide) _)
          omega
         have hG4 : Nr wr (.slice (some ⟨w1.heap.size, 0, none⟩) k3 ds.length) 0 := by
          have := hqv.q hq4
          rwa [HGZ.out] at this
         have HN := Lib.hid hnew; clear hnew hdr hq00;subst hqz;by_cases h9 : i < 9;all_goals
          go_wp2_with fail
          go_roundg 0
          case measure => exact hg
          case rel => exact ⟨p ++ t, rfl, hsz, hG4, by rw [aV]; omega, Or.inr ⟨rfl, HN.out⟩, hqq.trans hq4⟩
        ·have h9 : i < 9 := by
          rcases Nat.lt_or_ge i 9 with h | h
          ·exact h
          ·have := hq00 h; omega
         clear hq00;have hcv := aDK;have hs1 : (strOfNums [48 + (q : Int) % 10]).size ≤ 1 := Nat.le_of_eq (kU _);have hps9 : p.size ≤ 9 := (by rw [HPS.out]; exact hi);have hdg := aBR (q % 10) p (48 + (q : Int) % 10) (by omega);have hq2' : q / 10 = r / 10 ^ (i + 1) := (by rw [HQ.out, Nat.pow_succ, Nat.div_div_eq_div_mul]);have hdr : dec r = dec q ++ p.data.toList := by
          rcases HP.out with ⟨_, h⟩ | ⟨h, _⟩
          ·exact h
          ·omega
         have hstep : 0 < q / 10 ∧ dec r = dec (q / 10) ++ (dig (q % 10) :: p.data.toList) ∨ q / 10 = 0 ∧ dec r = dig (q % 10) :: p.data.toList := by
          rcases Nat.lt_or_ge q 10 with h | h
          ·refine Or.inr ⟨by omega, ?_⟩;rw [hdr, bW h, Nat.mod_eq_of_lt h]; rfl
          ·refine Or.inl ⟨by omega, ?_⟩;rw [hdr, iX h, List.append_assoc]; rfl
         rw [← hdg] at hstep;have HST := Lib.hid hstep; have HQ2 := Lib.hid hq2'; clear hdg hq2' hstep hdr;go_wp2_with fail
         refine ⟨⟨i + 1, q / 10, strOfNums [48 + (q : Int) % 10] ++ p, by omega, by go_num, congrArg (Value.int _) (by omega), rfl, HQ2.out, by omega, HST.out, ?_, hq4.alloc _⟩, by simp [intOf]; omega⟩;rw [ByteArray.size_append, kU, HPS.out]; omega
      ·have hk0 : 0 < k3 := by
        rw [HK.out];rcases Nat.eq_zero_or_pos (dg B30 G) with h | h
        ·have := bK aH h; omega
        ·exact h
       obtain ⟨wo, rfl⟩ : ∃ wo : World, wo = wr := ⟨_, rfl⟩
       go_loopw [5, 7, 8] (fun rv pv iv w4 => ∃ (i q : Nat) (p : ByteArray), i ≤ 9 ∧ iv = .int .i64 (i : Int) ∧ rv = .int .i64 (q : Int) ∧ pv = .string p ∧ q = r / 10 ^ i ∧ q < 1000000000 ∧ p.data.toList = pd i r ∧ p.size = i ∧ Q wo w4) (fun _ _ iv _ => 9 - (intOf iv).toNat)
       case atStart => exact ⟨0, r, ByteArray.empty, by omega, rfl, rfl, rfl, by simp, hr, rfl, rfl, Q.refl _⟩
       case round =>
        obtain ⟨i, q, p, hi, rfl, rfl, rfl, hq0, hq9, hp, hps, hq4⟩ := hrel;have HQ := Lib.hid hq0; have HP := Lib.hid hp; have HPS := Lib.hid hps; clear hq0 hp hps;by_cases h9 : i < 9
        ·have hcv := aDK;have hs1 : (strOfNums [48 + (q : Int) % 10]).size ≤ 1 := Nat.le_of_eq (kU _);have hps9 : p.size ≤ 9 := (by rw [HPS.out]; exact hi);have hdg := aBR (q % 10) p (48 + (q : Int) % 10) (by omega);have hq2' : q / 10 = r / 10 ^ (i + 1) := (by rw [HQ.out, Nat.pow_succ, Nat.div_div_eq_div_mul]);have HDG := Lib.hid hdg; have HQ2 := Lib.hid hq2'; clear hdg hq2';go_wp2_with fail
         refine ⟨⟨i + 1, q / 10, strOfNums [48 + (q : Int) % 10] ++ p, by omega, by go_num, congrArg (Value.int _) (by omega), rfl, HQ2.out, by omega, ?_, ?_, hq4.alloc _⟩, by simp [intOf]; omega⟩
         ·rw [HDG.out, HP.out, pd_succ', HQ.out]
         ·rw [ByteArray.size_append, kU, HPS.out]; omega
        ·obtain rfl : i = 9 := (by omega);have hps9 : p.size ≤ 9 := (by rw [HPS.out]; exact Nat.le_refl _);have hnew : dec N = dec G ++ (p ++ t).data.toList := by
          rw [ByteArray.data_append, Array.toList_append, HP.out, ← List.append_assoc, ← wB hG 9 r hr, show G * 10 ^ 9 + r = gk from HF.out.symm];rcases HDEC.out with ⟨_, h⟩ | ⟨h, _⟩
          ·exact h
          ·omega
         have hsz : (p ++ t).size ≤ 10995116277760 := by
          have h1 := congrArg List.length hnew;rw [List.length_append, fF, if_neg (by omega)] at h1;have h3 : (p ++ t).data.toList.length = (p ++ t).size := (by rw [Array.length_toList]; rfl);have h2 : dg 10 N ≤ 10 * dg B30 N := by
           refine fI (by decide) ?_;rw [Nat.pow_mul];exact Nat.lt_of_lt_of_le (aS aH N) (Nat.pow_le_pow_left (by decide) _)
          omega
         have hGk : G < gk := (by have := HF.out; omega);have hlG : dg B30 G + 1 ≤ 1099511627776 := (by have := bC aH (Nat.le_of_lt hGk); omega);have HN := Lib.hid hnew; clear hnew;go_wp2_with fail
         go_roundg G
         case measure => exact hGk
         case rel => exact ⟨p ++ t, rfl, hsz, hqv.q hq4, hlG, Or.inl ⟨hG, HN.out⟩, hqq.trans hq4⟩
end Go.Proofs.YtgokbhikgdhmpaaGreatDoor
namespace Go.Proofs.YtgokbhikgdhmpaaGreatDoor.K
open Go.RowKit
open Ma Me
theorem vT (a b : ByteArray) : (a ++ b).data.toList = a.data.toList ++ b.data.toList := by simp
theorem aEV (N : Nat) : (ofK (dec N)).size ≤ 20 * dg W64 N + 1 := by
 have e : (ofK (dec N)).size = (dec N).length := by unfold ofK; simp [ByteArray.size]
 rw [e, fF];split
 ·omega
 ·have h := (aG aB N (dg W64 N)).1 (Nat.le_refl _);have h2 : W64 ^ dg W64 N ≤ 10 ^ (20 * dg W64 N) := by
   rw [Nat.pow_mul];exact Nat.pow_le_pow_left (by decide) _
  have h3 := (aG (by decide : 1 < 10) N (20 * dg W64 N)).2 (Nat.lt_of_lt_of_le h h2);omega
theorem uD {p : Rat} (h : 1000 * sz p + 10000 ≤ LIM) : (ofK (dec p.num.natAbs)).size + (ofK (dec p.den)).size + 10 ≤ 9223372036854775807 := by
 have h1 := aEV p.num.natAbs;have h2 := aEV p.den;have h3 := aM p;rw [aA] at h;omega
theorem text_zero' {q : Rat} (h : q = 0) : (ofK (dec q.num.natAbs)).data.toList = dS q := by
 subst h;rw [nT];simp [dS]
theorem mV {q : Rat} {n d : Bool} (hn : decide (q.num < 0) = n) (hd : decide (q.den = 1) = d) : dS q = (if n then [45] else []) ++ dec q.num.natAbs ++ (if d then [] else 47 :: dec q.den) := by
 subst hn; subst hd;unfold dS;simp
theorem xI {q : Rat} : sn q < 0 ↔ q.num < 0 := by
 rw [cB];rcases bH q with ⟨h, e⟩ | ⟨h, e⟩ | ⟨h, e⟩
 ·rw [e]; exact ⟨fun _ => h, fun _ => by decide⟩
 ·rw [e, h]; exact ⟨fun h => absurd h (by decide), fun h => absurd h (by decide)⟩
 ·rw [e]; exact ⟨fun h => absurd h (by decide), fun h2 => by grind⟩
set_option maxRecDepth 100000 in
theorem aGy (x : Value) (p : Rat) (w : World) (hx : Rq w x p) (hB : 1000 * sz p + 10000 ≤ LIM) :
  Calls Tryz.prog 114 #[x] w fun e w' => ∃ t : ByteArray, e = .returned (.string t) ∧ t.data.toList = dS p ∧ Q w w' := by
 have hxy := hx;obtain ⟨AX1, kX1, cX1, AX2, kX2, cX2, rfl, -⟩ := hxy;obtain ⟨w0, hW, hG0, hX0⟩ := aCa w 32 [.int .i64 (sn (p)), .slice AX1 kX1 cX1, .slice AX2 kX2 cX2];have nX0 : Rq w0 (.agg #[.int .i64 (sn (p)), .slice AX1 kX1 cX1, .slice AX2 kX2 cX2]) (p) := hx.q hG0;have HB := Lib.hid hB; clear hB;go_enter Tryz.func114, Tryz.ntmps114
 go_upto_region 1 with fail
 clear hW;have N1 : Hid (dg B30 ((p).num.natAbs) ≤ 3 * sz (p)) := Lib.hid (by have h99 := iR (p); have hb9 := HB.out; omega);have B2 : Hid (dg B30 ((p).num.natAbs) + 1 ≤ LIM) := Lib.hid (by have h50 := N1.out; have hb9 := HB.out; rw [aA] at *; omega);refine aJ (F := ?F1) ([.eq (.pointer (some ⟨w.heap.size, 1, none⟩)), .gen (aD ((p).num.natAbs)), .eq (.string (ofK (dec ((p).num.natAbs)))), .eq (.string (ofK (dec ((p).num.natAbs))))] : List Vs) ?hF1 ?st1 ?en1
 case hF1 =>
  intro vals;simp only [Ja.fillL, Act.put, List.setIfInBounds_toArray, List.set_cons_zero, List.set_cons_succ, Nat.reduceAdd];exact rfl
 case st1 =>
  intro hctx;refine JC.p hctx ?_;refine JC.l1 (off := 1) hX0 (fun W hN => (Rq.top (Rq.q nX0 hN))) hctx ?_;refine JC.ca (fun vals W hN hd hk => (uC _ ((p).num.natAbs) W (hd 1 (by kernel_rfl)) B2.out).mono (by rintro e W9 ⟨t, rfl, ht, hq9⟩; exact ⟨(.string t), rfl, (congrArg Value.string (aEJ ht)), hq9⟩)) hctx ?_;refine JC.p hctx ?_;exact Ja.Steps.nil
 intro vals w1 hq1 hall;have hG1 := hG0.trans hq1;have hX1 := hX0.q hq1;have nX1 := Rq.q nX0 hq1;clear hG0 hX0 nX0;have f3 : vals 3 = .string (ofK (dec ((p).num.natAbs))) := hall 3 (by decide);rw [f3];clear f3;clear hall;go_upto_region 2 with fail
 by_cases hZ : p = 0
 ·have HZ := Lib.hid hZ; clear hZ;refine aJ (F := ?F2) ([.eq (.pointer (some ⟨w.heap.size, 0, none⟩)), .eq (.int .i64 (sn (p))), .eq (.bool false)] : List Vs) ?hF2 ?st2 ?en2
  case hF2 =>
   intro vals;simp only [Ja.fillL, Act.put, List.setIfInBounds_toArray, List.set_cons_zero, List.set_cons_succ, Nat.reduceAdd];exact rfl
  case st2 =>
   intro hctx;refine JC.p hctx ?_;refine JC.l1 (off := 0) hX1 (fun W hN => rfl) hctx ?_;refine JC.u (.bool (decide ((sn (p)) < (0)))) (congrArg Value.bool (decide_eq_false (show ¬ ((sn (p) : Int) < 0) from (by have h9 := aY.2 HZ.out; omega)))) hctx ?_;exact Ja.Steps.nil
  intro vals w2 hq2 hall;have hG2 := hG1.trans hq2;have hX2 := hX1.q hq2;have nX2 := Rq.q nX1 hq2;clear hG1 hX1 nX1;have f9 : vals 2 = .bool false := hall 2 (by decide);rw [f9];clear f9;clear hall;go_upto_region 4 with fail
  refine aJ (F := ?F3) ([.eq (.pointer (some ⟨w.heap.size, 0, none⟩)), .eq (.int .i64 (sn (p))), .eq (.bool false), .eq (.bool false), .no, .no, .no, .no, .eq (.bool false)] : List Vs) ?hF3 ?st3 ?en3
  case hF3 =>
   intro vals;simp only [Ja.fillL, Act.put, List.setIfInBounds_toArray, List.set_cons_zero, List.set_cons_succ, Nat.reduceAdd];exact rfl
  case st3 =>
   intro hctx;refine JC.p hctx ?_;refine JC.l1 (off := 0) hX2 (fun W hN => rfl) hctx ?_;refine JC.u (.bool (!((sn (p)) == (0)))) (congrArg Value.bool (bne_eq_false_iff_eq.2 (aY.2 HZ.out))) hctx ?_;refine JC.p hctx ?_;refine JC.n hctx ?_;refine JC.n hctx ?_;refine JC.n hctx ?_;refine JC.n hctx ?_;refine JC.p hctx ?_;exact Ja.Steps.nil
  intro vals w3 hq3 hall;have hG3 := hG2.trans hq3;have hX3 := hX2.q hq3;have nX3 := Rq.q nX2 hq3;clear hG2 hX2 nX2;have f20 : vals 8 = .bool false := hall 8 (by decide);rw [f20];clear f20;clear hall;go_upto_region 6 with fail
  refine aJ (F := ?F4) ([.eq (.string (ofK (dec ((p).num.natAbs)))), .eq (.string (ofK (dec ((p).num.natAbs))))] : List Vs) ?hF4 ?st4 ?en4
  case hF4 =>
   intro vals;simp only [Ja.fillL, Act.put, List.setIfInBounds_toArray, List.set_cons_zero, List.set_cons_succ, Nat.reduceAdd];exact rfl
  case st4 =>
   intro hctx;refine JC.p hctx ?_;refine JC.p hctx ?_;exact Ja.Steps.nil
  intro vals w4 hq4 hall;have hG4 := hG3.trans hq4;have hX4 := hX3.q hq4;have nX4 := Rq.q nX3 hq4;clear hG3 hX3 nX3;have f2 : vals 1 = .string (ofK (dec ((p).num.natAbs))) := hall 1 (by decide);rw [f2];clear f2;clear hall;go_wp2_with fail
  go_ret
  exact ⟨_, rfl, text_zero' HZ.out, hG4⟩
 ·have HZ := Lib.hid hZ; clear hZ;have hc0 : ¬ 9223372036854775807 < 1 + (ofK (dec p.num.natAbs)).size := (by have := uD HB.out; omega);have hc1 : ¬ 9223372036854775807 < (ofK (dec p.num.natAbs)).size + 1 := (by have := uD HB.out; omega);have hc2 : ¬ 9223372036854775807 < 1 + (ofK (dec p.num.natAbs)).size + 1 := (by have := uD HB.out; omega);have hc3 : ¬ 9223372036854775807 < (ofK (dec p.num.natAbs)).size + 1 + (ofK (dec p.den)).size := (by have := uD HB.out; omega);have hc4 : ¬ 9223372036854775807 < 1 + (ofK (dec p.num.natAbs)).size + 1 + (ofK (dec p.den)).size := (by have := uD HB.out; omega);by_cases hN : sn p < 0
  ·have HN := Lib.hid hN; clear hN;refine aJ (F := ?F5) ([.eq (.pointer (some ⟨w.heap.size, 0, none⟩)), .eq (.int .i64 (sn (p))), .eq (.bool true)] : List Vs) ?hF5 ?st5 ?en5
   case hF5 =>
    intro vals;simp only [Ja.fillL, Act.put, List.setIfInBounds_toArray, List.set_cons_zero, List.set_cons_succ, Nat.reduceAdd];exact rfl
   case st5 =>
    intro hctx;refine JC.p hctx ?_;refine JC.l1 (off := 0) hX1 (fun W hN => rfl) hctx ?_;refine JC.u (.bool (decide ((sn (p)) < (0)))) (congrArg Value.bool (decide_eq_true (show ((sn (p) : Int) < 0) from HN.out))) hctx ?_;exact Ja.Steps.nil
   intro vals w2 hq2 hall;have hG2 := hG1.trans hq2;have hX2 := hX1.q hq2;have nX2 := Rq.q nX1 hq2;clear hG1 hX1 nX1;have f9 : vals 2 = .bool true := hall 2 (by decide);rw [f9];clear f9;clear hall;go_upto_region 4 with fail
   by_cases hD : p.den = 1
   ·have HD := Lib.hid hD; clear hD;refine aJ (F := ?F6) ([.eq (.pointer (some ⟨w.heap.size, 0, none⟩)), .eq (.int .i64 (sn (p))), .eq (.bool true), .eq (.bool true), .eq (.pointer (some ⟨w.heap.size, 2, none⟩)), .gen (aD ((p).den)), .eq (.bool true), .eq (.bool false), .eq (.bool false)] : List Vs) ?hF6 ?st6 ?en6
    case hF6 =>
     intro vals;simp only [Ja.fillL, Act.put, List.setIfInBounds_toArray, List.set_cons_zero, List.set_cons_succ, Nat.reduceAdd];exact rfl
    case st6 =>
     intro hctx;refine JC.p hctx ?_;refine JC.l1 (off := 0) hX2 (fun W hN => rfl) hctx ?_;refine JC.u (.bool (!((sn (p)) == (0)))) (congrArg Value.bool (bne_iff_ne.2 (fun h9 => HZ.out (aY.1 h9)))) hctx ?_;refine JC.p hctx ?_;refine JC.p hctx ?_;refine JC.l1 (off := 2) hX2 (fun W hN => (Rq.bot (Rq.q nX2 hN) HZ.out)) hctx ?_;refine JC.ca (fun vals W hN hd hk => (kT _ ((p).den) true W (hd 5 (by kernel_rfl)) (decide_eq_true (HD.out))).mono (by rintro e W9 ⟨rfl, hq9⟩; exact ⟨(.bool true), rfl, rfl, hq9⟩)) hctx ?_;refine JC.p hctx ?_;refine JC.p hctx ?_;exact Ja.Steps.nil
    intro vals w3 hq3 hall;have hG3 := hG2.trans hq3;have hX3 := hX2.q hq3;have nX3 := Rq.q nX2 hq3;clear hG2 hX2 nX2;have f20 : vals 8 = .bool false := hall 8 (by decide);rw [f20];clear f20;clear hall;go_upto_region 6 with fail
    refine aJ (F := ?F7) ([.eq (.string ((⟨#[45]⟩ : ByteArray) ++ ofK (dec ((p).num.natAbs)))), .eq (.string ((⟨#[45]⟩ : ByteArray) ++ ofK (dec ((p).num.natAbs))))] : List Vs) ?hF7 ?st7 ?en7
    case hF7 =>
     intro vals;simp only [Ja.fillL, Act.put, List.setIfInBounds_toArray, List.set_cons_zero, List.set_cons_succ, Nat.reduceAdd];exact rfl
    case st7 =>
     intro hctx;refine JC.p hctx ?_;refine JC.p hctx ?_;exact Ja.Steps.nil
    intro vals w4 hq4 hall;have hG4 := hG3.trans hq4;have hX4 := hX3.q hq4;have nX4 := Rq.q nX3 hq4;clear hG3 hX3 nX3;have f2 : vals 1 = .string ((⟨#[45]⟩ : ByteArray) ++ ofK (dec ((p).num.natAbs))) := hall 1 (by decide);rw [f2];clear f2;clear hall;go_wp2_with fail
    go_ret
    exact ⟨_, rfl, by rw [mV (n := true) (d := true) (decide_eq_true (xI.1 HN.out)) (decide_eq_true HD.out)]; simp only [vT, nT]; simp, hG4⟩
   ·have HD := Lib.hid hD; clear hD;refine aJ (F := ?F8) ([.eq (.pointer (some ⟨w.heap.size, 0, none⟩)), .eq (.int .i64 (sn (p))), .eq (.bool true), .eq (.bool true), .eq (.pointer (some ⟨w.heap.size, 2, none⟩)), .gen (aD ((p).den)), .eq (.bool false), .eq (.bool true), .eq (.bool true)] : List Vs) ?hF8 ?st8 ?en8
    case hF8 =>
     intro vals;simp only [Ja.fillL, Act.put, List.setIfInBounds_toArray, List.set_cons_zero, List.set_cons_succ, Nat.reduceAdd];exact rfl
    case st8 =>
     intro hctx;refine JC.p hctx ?_;refine JC.l1 (off := 0) hX2 (fun W hN => rfl) hctx ?_;refine JC.u (.bool (!((sn (p)) == (0)))) (congrArg Value.bool (bne_iff_ne.2 (fun h9 => HZ.out (aY.1 h9)))) hctx ?_;refine JC.p hctx ?_;refine JC.p hctx ?_;refine JC.l1 (off := 2) hX2 (fun W hN => (Rq.bot (Rq.q nX2 hN) HZ.out)) hctx ?_;refine JC.ca (fun vals W hN hd hk => (kT _ ((p).den) false W (hd 5 (by kernel_rfl)) (decide_eq_false (HD.out))).mono (by rintro e W9 ⟨rfl, hq9⟩; exact ⟨(.bool false), rfl, rfl, hq9⟩)) hctx ?_;refine JC.p hctx ?_;refine JC.p hctx ?_;exact Ja.Steps.nil
    intro vals w3 hq3 hall;have hG3 := hG2.trans hq3;have hX3 := hX2.q hq3;have nX3 := Rq.q nX2 hq3;clear hG2 hX2 nX2;have f20 : vals 8 = .bool true := hall 8 (by decide);rw [f20];clear f20;clear hall;have x2 := hX3.cell 2 rfl;have N3 : Hid (dg B30 ((p).den) ≤ 3 * sz (p)) := Lib.hid (by have h99 := jP (p); have hb9 := HB.out; omega);have B4 : Hid (dg B30 ((p).den) + 1 ≤ LIM) := Lib.hid (by have h50 := N3.out; have hb9 := HB.out; rw [aA] at *; omega);go_wp2_with fail
    refine (uC _ (p.den) _ (Rq.bot nX3 HZ.out) B4.out).mono ?_;rintro e w4 ⟨t9, rfl, ht9, hq4⟩;obtain rfl := aEJ ht9;have hG4 := hG3.trans hq4; have hX4 := hX3.q hq4; have nX4 := nX3.q hq4; clear x2 hX3 nX3 hG3;go_upto_region 6 with fail
    refine aJ (F := ?F9) ([.eq (.string (((⟨#[45]⟩ : ByteArray) ++ ofK (dec ((p).num.natAbs))) ++ (⟨#[47]⟩ : ByteArray) ++ ofK (dec p.den))), .eq (.string (((⟨#[45]⟩ : ByteArray) ++ ofK (dec ((p).num.natAbs))) ++ (⟨#[47]⟩ : ByteArray) ++ ofK (dec p.den)))] : List Vs) ?hF9 ?st9 ?en9
    case hF9 =>
     intro vals;simp only [Ja.fillL, Act.put, List.setIfInBounds_toArray, List.set_cons_zero, List.set_cons_succ, Nat.reduceAdd];exact rfl
    case st9 =>
     intro hctx;refine JC.p hctx ?_;refine JC.p hctx ?_;exact Ja.Steps.nil
    intro vals w5 hq5 hall;have hG5 := hG4.trans hq5;have hX5 := hX4.q hq5;have nX5 := Rq.q nX4 hq5;clear hG4 hX4 nX4;have f2 : vals 1 = .string (((⟨#[45]⟩ : ByteArray) ++ ofK (dec ((p).num.natAbs))) ++ (⟨#[47]⟩ : ByteArray) ++ ofK (dec p.den)) := hall 1 (by decide);rw [f2];clear f2;clear hall;go_wp2_with fail
    go_ret
    exact ⟨_, rfl, by rw [mV (n := true) (d := false) (decide_eq_true (xI.1 HN.out)) (decide_eq_false HD.out)]; simp only [vT, nT]; simp, hG5⟩
  ·have HN := Lib.hid hN; clear hN;refine aJ (F := ?F10) ([.eq (.pointer (some ⟨w.heap.size, 0, none⟩)), .eq (.int .i64 (sn (p))), .eq (.bool false)] : List Vs) ?hF10 ?st10 ?en10
   case hF10 =>
    intro vals;simp only [Ja.fillL, Act.put, List.setIfInBounds_toArray, List.set_cons_zero, List.set_cons_succ, Nat.reduceAdd];exact rfl
   case st10 =>
    intro hctx;refine JC.p hctx ?_;refine JC.l1 (off := 0) hX1 (fun W hN => rfl) hctx ?_;refine JC.u (.bool (decide ((sn (p)) < (0)))) (congrArg Value.bool (decide_eq_false (show ¬ ((sn (p) : Int) < 0) from HN.out))) hctx ?_;exact Ja.Steps.nil
   intro vals w2 hq2 hall;have hG2 := hG1.trans hq2;have hX2 := hX1.q hq2;have nX2 := Rq.q nX1 hq2;clear hG1 hX1 nX1;have f9 : vals 2 = .bool false := hall 2 (by decide);rw [f9];clear f9;clear hall;go_upto_region 4 with fail
   by_cases hD : p.den = 1
   ·have HD := Lib.hid hD; clear hD;refine aJ (F := ?F11) ([.eq (.pointer (some ⟨w.heap.size, 0, none⟩)), .eq (.int .i64 (sn (p))), .eq (.bool true), .eq (.bool true), .eq (.pointer (some ⟨w.heap.size, 2, none⟩)), .gen (aD ((p).den)), .eq (.bool true), .eq (.bool false), .eq (.bool false)] : List Vs) ?hF11 ?st11 ?en11
    case hF11 =>
     intro vals;simp only [Ja.fillL, Act.put, List.setIfInBounds_toArray, List.set_cons_zero, List.set_cons_succ, Nat.reduceAdd];exact rfl
    case st11 =>
     intro hctx;refine JC.p hctx ?_;refine JC.l1 (off := 0) hX2 (fun W hN => rfl) hctx ?_;refine JC.u (.bool (!((sn (p)) == (0)))) (congrArg Value.bool (bne_iff_ne.2 (fun h9 => HZ.out (aY.1 h9)))) hctx ?_;refine JC.p hctx ?_;refine JC.p hctx ?_;refine JC.l1 (off := 2) hX2 (fun W hN => (Rq.bot (Rq.q nX2 hN) HZ.out)) hctx ?_;refine JC.ca (fun vals W hN hd hk => (kT _ ((p).den) true W (hd 5 (by kernel_rfl)) (decide_eq_true (HD.out))).mono (by rintro e W9 ⟨rfl, hq9⟩; exact ⟨(.bool true), rfl, rfl, hq9⟩)) hctx ?_;refine JC.p hctx ?_;refine JC.p hctx ?_;exact Ja.Steps.nil
    intro vals w3 hq3 hall;have hG3 := hG2.trans hq3;have hX3 := hX2.q hq3;have nX3 := Rq.q nX2 hq3;clear hG2 hX2 nX2;have f20 : vals 8 = .bool false := hall 8 (by decide);rw [f20];clear f20;clear hall;go_upto_region 6 with fail
    refine aJ (F := ?F12) ([.eq (.string (ofK (dec ((p).num.natAbs)))), .eq (.string (ofK (dec ((p).num.natAbs))))] : List Vs) ?hF12 ?st12 ?en12
    case hF12 =>
     intro vals;simp only [Ja.fillL, Act.put, List.setIfInBounds_toArray, List.set_cons_zero, List.set_cons_succ, Nat.reduceAdd];exact rfl
    case st12 =>
     intro hctx;refine JC.p hctx ?_;refine JC.p hctx ?_;exact Ja.Steps.nil
    intro vals w4 hq4 hall;have hG4 := hG3.trans hq4;have hX4 := hX3.q hq4;have nX4 := Rq.q nX3 hq4;clear hG3 hX3 nX3;have f2 : vals 1 = .string (ofK (dec ((p).num.natAbs))) := hall 1 (by decide);rw [f2];clear f2;clear hall;go_wp2_with fail
    go_ret
    exact ⟨_, rfl, by rw [mV (n := false) (d := true) (decide_eq_false (fun h9 => by have h8 := xI.2 h9; have h7 := HN.out; omega)) (decide_eq_true HD.out)]; simp only [nT]; simp, hG4⟩
   ·have HD := Lib.hid hD; clear hD;refine aJ (F := ?F13) ([.eq (.pointer (some ⟨w.heap.size, 0, none⟩)), .eq (.int .i64 (sn (p))), .eq (.bool true), .eq (.bool true), .eq (.pointer (some ⟨w.heap.size, 2, none⟩)), .gen (aD ((p).den)), .eq (.bool false), .eq (.bool true), .eq (.bool true)] : List Vs) ?hF13 ?st13 ?en13
    case hF13 =>
     intro vals;simp only [Ja.fillL, Act.put, List.setIfInBounds_toArray, List.set_cons_zero, List.set_cons_succ, Nat.reduceAdd];exact rfl
    case st13 =>
     intro hctx;refine JC.p hctx ?_;refine JC.l1 (off := 0) hX2 (fun W hN => rfl) hctx ?_;refine JC.u (.bool (!((sn (p)) == (0)))) (congrArg Value.bool (bne_iff_ne.2 (fun h9 => HZ.out (aY.1 h9)))) hctx ?_;refine JC.p hctx ?_;refine JC.p hctx ?_;refine JC.l1 (off := 2) hX2 (fun W hN => (Rq.bot (Rq.q nX2 hN) HZ.out)) hctx ?_;refine JC.ca (fun vals W hN hd hk => (kT _ ((p).den) false W (hd 5 (by kernel_rfl)) (decide_eq_false (HD.out))).mono (by rintro e W9 ⟨rfl, hq9⟩; exact ⟨(.bool false), rfl, rfl, hq9⟩)) hctx ?_;refine JC.p hctx ?_;refine JC.p hctx ?_;exact Ja.Steps.nil
    intro vals w3 hq3 hall;have hG3 := hG2.trans hq3;have hX3 := hX2.q hq3;have nX3 := Rq.q nX2 hq3;clear hG2 hX2 nX2;have f20 : vals 8 = .bool true := hall 8 (by decide);rw [f20];clear f20;clear hall;have x2 := hX3.cell 2 rfl;have N3 : Hid (dg B30 ((p).den) ≤ 3 * sz (p)) := Lib.hid (by have h99 := jP (p); have hb9 := HB.out; omega);have B4 : Hid (dg B30 ((p).den) + 1 ≤ LIM) := Lib.hid (by have h50 := N3.out; have hb9 := HB.out; rw [aA] at *; omega);go_wp2_with fail
    refine (uC _ (p.den) _ (Rq.bot nX3 HZ.out) B4.out).mono ?_;rintro e w4 ⟨t9, rfl, ht9, hq4⟩;obtain rfl := aEJ ht9;have hG4 := hG3.trans hq4; have hX4 := hX3.q hq4; have nX4 := nX3.q hq4; clear x2 hX3 nX3 hG3;go_upto_region 6 with fail
    refine aJ (F := ?F14) ([.eq (.string ((ofK (dec ((p).num.natAbs))) ++ (⟨#[47]⟩ : ByteArray) ++ ofK (dec p.den))), .eq (.string ((ofK (dec ((p).num.natAbs))) ++ (⟨#[47]⟩ : ByteArray) ++ ofK (dec p.den)))] : List Vs) ?hF14 ?st14 ?en14
    case hF14 =>
     intro vals;simp only [Ja.fillL, Act.put, List.setIfInBounds_toArray, List.set_cons_zero, List.set_cons_succ, Nat.reduceAdd];exact rfl
    case st14 =>
     intro hctx;refine JC.p hctx ?_;refine JC.p hctx ?_;exact Ja.Steps.nil
    intro vals w5 hq5 hall;have hG5 := hG4.trans hq5;have hX5 := hX4.q hq5;have nX5 := Rq.q nX4 hq5;clear hG4 hX4 nX4;have f2 : vals 1 = .string ((ofK (dec ((p).num.natAbs))) ++ (⟨#[47]⟩ : ByteArray) ++ ofK (dec p.den)) := hall 1 (by decide);rw [f2];clear f2;clear hall;go_wp2_with fail
    go_ret
    exact ⟨_, rfl, by rw [mV (n := false) (d := false) (decide_eq_false (fun h9 => by have h8 := xI.2 h9; have h7 := HN.out; omega)) (decide_eq_false HD.out)]; simp only [vT, nT]; simp, hG5⟩
set_option maxRecDepth 100000 in
theorem mK (x y : Value) (p : Rat) (w : World) (hx : Nq w x p) (hy : Rq w y p) (hB : 2000 * sz p + 500000 ≤ LIM) :
  Calls Tryz.prog 19 #[x, y] w fun e w' => e = .returned (.bool true) ∧ Q w w' := by
 have hxy := hx; obtain ⟨sX0, AX1, kX1, cX1, AX2, kX2, cX2, rfl, -⟩ := Nq.form hxy;have hyy := hy;obtain ⟨AY1, kY1, cY1, AY2, kY2, cY2, rfl, -⟩ := hyy;obtain ⟨w0, hW, hG0, hX0, hY0⟩ := vM w 25 [.bool sX0, .slice AX1 kX1 cX1, .slice AX2 kX2 cX2] 32 [.int .i64 (sn (p)), .slice AY1 kY1 cY1, .slice AY2 kY2 cY2];have nX0 : Nq w0 (.agg #[.bool sX0, .slice AX1 kX1 cX1, .slice AX2 kX2 cX2]) (p) := hx.q hG0;have nY0 : Rq w0 (.agg #[.int .i64 (sn (p)), .slice AY1 kY1 cY1, .slice AY2 kY2 cY2]) (p) := hy.q hG0;go_enter Tryz.func19, Tryz.ntmps19
 go_upto_region 1 with fail
 clear hW;have Z1 : Hid (sz p ≤ 549755563) := Lib.hid (by rw [aA] at hB; omega);have B1 : Hid (1000 * sz (p) + 10000 ≤ LIM) := Lib.hid (by have h0 := Z1.out; rw [aA] at *; omega);refine jI (F := ?F1) ([.gen (aF (p)), .eq (.string (ofL (dS (p)))), .gen (pRn (p)), .eq (.string (ofL (dS (p)))), .eq (.bool true), .eq (.bool true)] : List Vs) ?hF1 ?st1 ?en1
 case hF1 =>
  intro vals;simp only [Ja.fillL, Act.put, List.setIfInBounds_toArray, List.set_cons_zero, List.set_cons_succ, Nat.reduceAdd];exact rfl
 case st1 =>
  intro hctx;refine JC.l3 (off := 0) hX0 (fun W hN => (Nq.q nX0 hN)) hctx ?_;refine JC.ca (fun vals W hN hd hk => (pV _ (p) W (hd 0 (by kernel_rfl)) (by have h0 := Z1.out; omega)).mono (by rintro e W9 ⟨t, rfl, ht, hq9⟩; exact ⟨(.string t), rfl, (congrArg Value.string (nU ht)), hq9⟩)) hctx ?_;refine JC.l3 (off := 0) hY0 (fun W hN => (Rq.q nY0 hN)) hctx ?_;refine JC.ca (fun vals W hN hd hk => (aGy _ (p) W (hd 2 (by kernel_rfl)) B1.out).mono (by rintro e W9 ⟨t, rfl, ht, hq9⟩; exact ⟨(.string t), rfl, (congrArg Value.string (nU ht)), hq9⟩)) hctx ?_;refine JC.o hctx ?_ ?_
  ·intro L vals W hL hJ hd K hK;have d1 : vals 1 = .string (ofL (dS (p))) := hd 1 (by kernel_rfl);generalize vals 1 = u1 at d1 hK ⊢;subst d1;have d3 : vals 3 = .string (ofL (dS (p))) := hd 3 (by kernel_rfl);generalize vals 3 = u3 at d3 hK ⊢;subst d3;go_simp
   exact hK.out (.bool true) _ _ (by kernel_rfl) rfl (Q.refl _)
  refine JC.p hctx ?_;exact Ja.Steps.nil
 intro vals w1 hq1 hall;have hG1 := hG0.trans hq1;have hX1 := hX0.q hq1;have nX1 := Nq.q nX0 hq1;have hY1 := hY0.q hq1;have nY1 := Rq.q nY0 hq1;clear hG0 hX0 hY0 nX0 nY0;have f4 : vals 5 = .bool true := hall 5 (by decide);rw [f4];clear f4;clear hall;go_wp2_with fail
 go_ret
 exact ⟨rfl, hG1⟩
set_option maxRecDepth 100000 in
theorem qG (a : ByteArray) (w : World) (hT : Tb w) (ha : a.size ≤ 9223372036854775806) :
  Calls Tryz.prog 26 #[.string a] w fun e w' => ∃ x y, e = .returned (.tuple #[x, y, .bool (decide ((aZ a.data.toList).1 = 0))]) ∧ Nq w' x (aZ a.data.toList).2 ∧ Rq w' y (aZ a.data.toList).2 ∧ Q w w' := by
 obtain ⟨w0, hW, hG0, hP0, hR0⟩ := vM w 25 [.bool false, .slice none 0 0, .slice none 0 0] 32 [.int .i64 0, .slice none 0 0, .slice none 0 0];go_enter Tryz.func26, Tryz.ntmps26
 go_upto_region 1 with fail
 clear hW;obtain ⟨ca, Hca⟩ : ∃ z : Int, Hid ((aZ a.data.toList).1 = z) := ⟨_, Lib.hid rfl⟩
 obtain ⟨p, Hp⟩ : ∃ z : Rat, Hid ((aZ a.data.toList).2 = z) := ⟨_, Lib.hid rfl⟩
 have hz0 := hR0.lt;have hAt0 : At0 w0 [⟨some 5, 0, 25, [.b, .s, .s], .agg #[.bool false, .slice none 0 0, .slice none 0 0], 6, 3⟩] [] w0 := At0.of (Q.refl _) ⟨fun h => (by cases h), trivial⟩ (by simp [aP]) trivial;refine aN (F := ?F2) w0 ([.eq (.string (a)), .gen (pT2 (aF (p)) (pEq (.int .i64 (ca)))), .gen (pT2 (aF (p)) (pEq (.int .i64 (ca)))), .gen (aF (p)), .eq (.int .i64 (ca)), .any, .any, .eq (.int .i64 (ca))] : List Vs) _ _ (by kernel_rfl) hAt0 ?hF2 ?st2 ?en2
 case hF2 =>
  intro vals;simp only [Ja.fillL, Act.put, List.setIfInBounds_toArray, List.set_cons_zero, List.set_cons_succ, Nat.reduceAdd];exact rfl
 case st2 =>
  clear hAt0;intro hctx;refine JC.p hctx ?_;refine JC.ca (fun vals W hN hd hk => (aBH a W (hT.q (hG0.trans hN)) ha).mono (by rintro e W9 ⟨r, rfl, hr, hq9⟩; exact ⟨(.tuple #[r, .int .i64 (aZ a.data.toList).1]), rfl, ⟨_, _, rfl, (by have h7 := hr; rw [Hp.out] at h7; exact h7), congrArg (Value.int .i64) Hca.out⟩, hq9⟩)) hctx ?_;refine JC.m 1 hctx ?_;refine JC.o hctx ?_ ?_
  ·intro L vals W hL hJ hd K hK;have d2 : (pT2 (aF (p)) (pEq (.int .i64 (ca)))).p (vals 2) W := hd 2 (by kernel_rfl);generalize vals 2 = u2 at d2 hK ⊢;obtain ⟨e0, e1, rfl, he0, he1⟩ := d2;go_simp
   exact hK.out (e0) _ _ (by kernel_rfl) he0 (Q.refl _)
  refine JC.o hctx ?_ ?_
  ·intro L vals W hL hJ hd K hK;have d2 : (pT2 (aF (p)) (pEq (.int .i64 (ca)))).p (vals 2) W := hd 2 (by kernel_rfl);generalize vals 2 = u2 at d2 hK ⊢;obtain ⟨e0, e1, rfl, he0, he1⟩ := d2;obtain rfl : e1 = .int .i64 (ca) := he1;go_simp
   exact hK.out (.int .i64 (ca)) _ _ (by kernel_rfl) rfl (Q.refl _)
  refine Ja.Steps.cons (JC.alloc (n := 0) (cells := [.bool false, .slice none 0 0, .slice none 0 0].toArray) (t := 25) hctx (by kernel_rfl) (by rfl) (by kernel_rfl) (by rfl) (by rfl) (by kernel_rfl) (by rfl) (fun W => NbV.mk (t := 25) (ck := [.b, .s, .s]) (row := [.bool false, .slice none 0 0, .slice none 0 0]) ⟨⟨_, rfl⟩, ⟨_, _, _, rfl⟩, ⟨_, _, _, rfl⟩, trivial⟩ (Bx.new W _ _)) ?_) ?_
  ·intro vals W K hK;go_simp
   exact hK.out _ (by kernel_rfl)
  refine JC.s3 (n := 0) rfl kF hctx ?_;refine JC.p hctx ?_;exact Ja.Steps.nil
 intro L vals w1 hall hJ;clear hAt0;have hq1 := hJ.q;have hG1 := hG0.trans hq1;have hz1 := hq1.size;have hP1 := hP0.q hq1;have hR1 := hR0.q hq1;clear hG0 hP0 hR0;obtain ⟨gX, eX, geX, qX⟩ := hJ.fresh 0 rfl rfl (hall 5 (by decide)) (hall 6 (by decide));obtain ⟨sX0, AX1, kX1, cX1, AX2, kX2, cX2, hX1, nX1⟩ := iQ (g := gX) (t := 25) qX (show Nq w1 (vals 3) (p) from hJ.s 3 (hall 3 (by decide)));clear qX;rw [eX];clear eX;have f6 : vals 7 = .int .i64 (ca) := hJ.s 7 (hall 7 (by decide));rw [f6];clear f6;clear hall hJ;have hzX := hX1.lt;go_upto_region 2 with fail
 have hAt1 : At0 w1 [⟨some 5, 0, 32, [.i, .s, .s], .agg #[.int .i64 0, .slice none 0 0, .slice none 0 0], 6, 3⟩] [] w1 := At0.of (Q.refl _) ⟨fun h => (by cases h), trivial⟩ (by simp [aP]) trivial;refine aN (F := ?F3) w1 ([.eq (.string (a)), .gen (pT2 (pRn (p)) (pEq (.int .i64 (ca)))), .gen (pT2 (pRn (p)) (pEq (.int .i64 (ca)))), .gen (pRn (p)), .eq (.int .i64 (ca)), .any, .any, .eq (.int .i64 (ca))] : List Vs) _ _ (by kernel_rfl) hAt1 ?hF3 ?st3 ?en3
 case hF3 =>
  intro vals;simp only [Ja.fillL, Act.put, List.setIfInBounds_toArray, List.set_cons_zero, List.set_cons_succ, Nat.reduceAdd];exact rfl
 case st3 =>
  clear hAt1;intro hctx;refine JC.p hctx ?_;refine JC.ca (fun vals W hN hd hk => (aFE a W ha).mono (by rintro e W9 ⟨r, rfl, hr, hq9⟩; exact ⟨(.tuple #[r, .int .i64 ((aZ a.data.toList).1)]), rfl, ⟨_, _, rfl, (by have h7 := hr; rw [Hp.out] at h7; exact h7), congrArg (Value.int .i64) Hca.out⟩, hq9⟩)) hctx ?_;refine JC.m 1 hctx ?_;refine JC.o hctx ?_ ?_
  ·intro L vals W hL hJ hd K hK;have d2 : (pT2 (pRn (p)) (pEq (.int .i64 (ca)))).p (vals 2) W := hd 2 (by kernel_rfl);generalize vals 2 = u2 at d2 hK ⊢;obtain ⟨e0, e1, rfl, he0, he1⟩ := d2;go_simp
   exact hK.out (e0) _ _ (by kernel_rfl) he0 (Q.refl _)
  refine JC.o hctx ?_ ?_
  ·intro L vals W hL hJ hd K hK;have d2 : (pT2 (pRn (p)) (pEq (.int .i64 (ca)))).p (vals 2) W := hd 2 (by kernel_rfl);generalize vals 2 = u2 at d2 hK ⊢;obtain ⟨e0, e1, rfl, he0, he1⟩ := d2;obtain rfl : e1 = .int .i64 (ca) := he1;go_simp
   exact hK.out (.int .i64 (ca)) _ _ (by kernel_rfl) rfl (Q.refl _)
  refine Ja.Steps.cons (JC.alloc (n := 0) (cells := [.int .i64 0, .slice none 0 0, .slice none 0 0].toArray) (t := 32) hctx (by kernel_rfl) (by rfl) (by kernel_rfl) (by rfl) (by rfl) (by kernel_rfl) (by rfl) (fun W => NbV.mk (t := 32) (ck := [.i, .s, .s]) (row := [.int .i64 0, .slice none 0 0, .slice none 0 0]) ⟨⟨_, rfl⟩, ⟨_, _, _, rfl⟩, ⟨_, _, _, rfl⟩, trivial⟩ (Bx.new W _ _)) ?_) ?_
  ·intro vals W K hK;go_simp
   exact hK.out _ (by kernel_rfl)
  refine JC.s3 (n := 0) rfl fRn hctx ?_;refine JC.p hctx ?_;exact Ja.Steps.nil
 intro L vals w2 hall hJ;clear hAt1;have hq2 := hJ.q;have hG2 := hG1.trans hq2;have hz2 := hq2.size;have hP2 := hP1.q hq2;have hR2 := hR1.q hq2;have hX2 := hX1.q hq2;have nX2 := Nq.q nX1 hq2;clear hG1 hP1 hR1 hX1 nX1;obtain ⟨gY, eY, geY, qY⟩ := hJ.fresh 0 rfl rfl (hall 5 (by decide)) (hall 6 (by decide));obtain ⟨AY1, kY1, cY1, AY2, kY2, cY2, hY2, nY2⟩ := dZ (g := gY) (t := 32) qY (show Rq w2 (vals 3) (p) from hJ.s 3 (hall 3 (by decide)));clear qY;rw [eY];clear eY;have f8 : vals 7 = .int .i64 (ca) := hJ.s 7 (hall 7 (by decide));rw [f8];clear f8;clear hall hJ;go_upto_region 3 with fail
 by_cases hZ : ca = 0
 ·have HZ := Lib.hid hZ; clear hZ;have hAt2 : At0 w [⟨none, w.heap.size, 25, [.b, .s, .s], .agg #[.bool false, .slice none 0 0, .slice none 0 0], 8, 0⟩, ⟨none, w.heap.size + 1, 32, [.i, .s, .s], .agg #[.int .i64 0, .slice none 0 0, .slice none 0 0], 9, 1⟩, ⟨none, gX, 25, [.b, .s, .s], .agg #[.bool sX0, .slice AX1 kX1 cX1, .slice AX2 kX2 cX2], 1000, 0⟩, ⟨none, gY, 32, [.i, .s, .s], .agg #[.int .i64 (sn (p)), .slice AY1 kY1 cY1, .slice AY2 kY2 cY2], 1000, 0⟩] [(.agg #[.bool sX0, .slice AX1 kX1 cX1, .slice AX2 kX2 cX2], .gen (aF (p))), (.agg #[.int .i64 (sn (p)), .slice AY1 kY1 cY1, .slice AY2 kY2 cY2], .gen (pRn (p)))] w2 := At0.of hG2 ⟨kS hP2 (by omega), aT hR2 (by omega), kS hX2 (by omega), aT hY2 (by omega), trivial⟩ (by (simp [aP] <;> omega)) ⟨nX2, nY2, trivial⟩;clear hG2 hP2 hR2 hX2 hY2 nX2 nY2;refine bF (F := ?F4) w ([.gen (aF (p)), .gen (pRn (p)), .eq (.int .i64 (ca)), .eq (.bool true), .eq (.bool true), .eq (.int .i64 (ca)), .eq (.bool true), .eq (.bool true), .any, .any, .eq (.bool true)] : List Vs) _ _ (by kernel_rfl) (by kernel_rfl) hAt2 ?hF4 ?st4 ?en4
  case hF4 =>
   intro vals;simp only [Ja.fillL, Act.put, List.setIfInBounds_toArray, List.set_cons_zero, List.set_cons_succ, Nat.reduceAdd];exact rfl
  case st4 =>
   clear hAt2;intro hctx;refine JC.r3 (off := 0) (row := [.bool sX0, .slice AX1 kX1 cX1, .slice AX2 kX2 cX2]) (fun _ _ _ hL hJ => hJ.still 2 rfl rfl (Nat.le_of_ble_eq_true (by kernel_rfl))) (fun _ _ _ hJ => (hJ.kept 0 rfl)) hctx ?_;refine JC.r3 (off := 0) (row := [.int .i64 (sn (p)), .slice AY1 kY1 cY1, .slice AY2 kY2 cY2]) (fun _ _ _ hL hJ => hJ.still 3 rfl rfl (Nat.le_of_ble_eq_true (by kernel_rfl))) (fun _ _ _ hJ => (hJ.kept 1 rfl)) hctx ?_;refine JC.p hctx ?_;refine JC.u (.bool ((ca) == (0))) (congrArg Value.bool (beq_iff_eq.2 (HZ.out))) hctx ?_;refine JC.p hctx ?_;refine JC.p hctx ?_;refine JC.u (.bool ((ca) == (0))) (congrArg Value.bool (beq_iff_eq.2 (HZ.out))) hctx ?_;refine JC.p hctx ?_;refine JC.s3 (n := 0) rfl kF hctx ?_;refine JC.s3 (n := 1) rfl fRn hctx ?_;refine JC.p hctx ?_;exact Ja.Steps.nil
  intro L vals w3 hall hJ;clear hAt2;have hG3 := hJ.q;obtain ⟨sP0, AP1, kP1, cP1, AP2, kP2, cP2, hP3, nP3⟩ := iQ (g := w.heap.size) (t := 25) (hJ.stored 0 rfl rfl (hall 8 (by decide))) (show Nq w3 (vals 0) (p) from hJ.s 0 (hall 0 (by decide)));obtain ⟨AR1, kR1, cR1, AR2, kR2, cR2, hR3, nR3⟩ := dZ (g := w.heap.size + 1) (t := 32) (hJ.stored 1 rfl rfl (hall 9 (by decide))) (show Rq w3 (vals 1) (p) from hJ.s 1 (hall 1 (by decide)));have hX3 : Bx w3 (gX) 25 [.bool sX0, .slice AX1 kX1 cX1, .slice AX2 kX2 cX2] := NbV.out (hJ.still 2 rfl rfl (Nat.le_of_ble_eq_true (by kernel_rfl)));have nX3 : Nq w3 (.agg #[.bool sX0, .slice AX1 kX1 cX1, .slice AX2 kX2 cX2]) (p) := hJ.kept 0 rfl;have hY3 : Bx w3 (gY) 32 [.int .i64 (sn (p)), .slice AY1 kY1 cY1, .slice AY2 kY2 cY2] := NbV.out (hJ.still 3 rfl rfl (Nat.le_of_ble_eq_true (by kernel_rfl)));have nY3 : Rq w3 (.agg #[.int .i64 (sn (p)), .slice AY1 kY1 cY1, .slice AY2 kY2 cY2]) (p) := hJ.kept 1 rfl;have f4 : vals 10 = .bool true := hJ.s 10 (hall 10 (by decide));rw [f4];clear f4;clear hall hJ;go_wp2_with fail
  have zP0 : w3.cell? ⟨w.heap.size, 0, none⟩ = some (.bool sP0) := hP3.cell 0 rfl;have zP1 : w3.cell? ⟨w.heap.size, 1, none⟩ = some (.slice AP1 kP1 cP1) := hP3.cell 1 rfl;have zP2 : w3.cell? ⟨w.heap.size, 2, none⟩ = some (.slice AP2 kP2 cP2) := hP3.cell 2 rfl;have zR0 : w3.cell? ⟨w.heap.size + 1, 0, none⟩ = some (.int .i64 (sn (p))) := hR3.cell 0 rfl;have zR1 : w3.cell? ⟨w.heap.size + 1, 1, none⟩ = some (.slice AR1 kR1 cR1) := hR3.cell 1 rfl;have zR2 : w3.cell? ⟨w.heap.size + 1, 2, none⟩ = some (.slice AR2 kR2 cR2) := hR3.cell 2 rfl;refine bodyPost_ret (v := .tuple #[.agg #[.bool sP0, .slice AP1 kP1 cP1, .slice AP2 kP2 cP2], .agg #[.int .i64 (sn (p)), .slice AR1 kR1 cR1, .slice AR2 kR2 cR2], .bool true]) (by simp [results, Tryz.results26, go_sem, zP0, zP1, zP2, zR0, zR1, zR2]) rfl ?_;exact ⟨_, _, by rw [Hca.out, decide_eq_true HZ.out], by rw [Hp.out]; exact nP3, by rw [Hp.out]; exact nR3, hG3⟩
 ·have HZ := Lib.hid hZ; clear hZ;have hAt2 : At0 w [⟨none, w.heap.size, 25, [.b, .s, .s], .agg #[.bool false, .slice none 0 0, .slice none 0 0], 8, 0⟩, ⟨none, w.heap.size + 1, 32, [.i, .s, .s], .agg #[.int .i64 0, .slice none 0 0, .slice none 0 0], 9, 1⟩, ⟨none, gX, 25, [.b, .s, .s], .agg #[.bool sX0, .slice AX1 kX1 cX1, .slice AX2 kX2 cX2], 1000, 0⟩, ⟨none, gY, 32, [.i, .s, .s], .agg #[.int .i64 (sn (p)), .slice AY1 kY1 cY1, .slice AY2 kY2 cY2], 1000, 0⟩] [(.agg #[.bool sX0, .slice AX1 kX1 cX1, .slice AX2 kX2 cX2], .gen (aF (p))), (.agg #[.int .i64 (sn (p)), .slice AY1 kY1 cY1, .slice AY2 kY2 cY2], .gen (pRn (p)))] w2 := At0.of hG2 ⟨kS hP2 (by omega), aT hR2 (by omega), kS hX2 (by omega), aT hY2 (by omega), trivial⟩ (by (simp [aP] <;> omega)) ⟨nX2, nY2, trivial⟩;clear hG2 hP2 hR2 hX2 hY2 nX2 nY2;refine bF (F := ?F5) w ([.gen (aF (p)), .gen (pRn (p)), .eq (.int .i64 (ca)), .eq (.bool false), .eq (.bool false), .no, .no, .eq (.bool false), .any, .any, .eq (.bool false)] : List Vs) _ _ (by kernel_rfl) (by kernel_rfl) hAt2 ?hF5 ?st5 ?en5
  case hF5 =>
   intro vals;simp only [Ja.fillL, Act.put, List.setIfInBounds_toArray, List.set_cons_zero, List.set_cons_succ, Nat.reduceAdd];exact rfl
  case st5 =>
   clear hAt2;intro hctx;refine JC.r3 (off := 0) (row := [.bool sX0, .slice AX1 kX1 cX1, .slice AX2 kX2 cX2]) (fun _ _ _ hL hJ => hJ.still 2 rfl rfl (Nat.le_of_ble_eq_true (by kernel_rfl))) (fun _ _ _ hJ => (hJ.kept 0 rfl)) hctx ?_;refine JC.r3 (off := 0) (row := [.int .i64 (sn (p)), .slice AY1 kY1 cY1, .slice AY2 kY2 cY2]) (fun _ _ _ hL hJ => hJ.still 3 rfl rfl (Nat.le_of_ble_eq_true (by kernel_rfl))) (fun _ _ _ hJ => (hJ.kept 1 rfl)) hctx ?_;refine JC.p hctx ?_;refine JC.u (.bool ((ca) == (0))) (congrArg Value.bool (beq_eq_false_iff_ne.2 (HZ.out))) hctx ?_;refine JC.p hctx ?_;refine JC.n hctx ?_;refine JC.n hctx ?_;refine JC.p hctx ?_;refine JC.s3 (n := 0) rfl kF hctx ?_;refine JC.s3 (n := 1) rfl fRn hctx ?_;refine JC.p hctx ?_;exact Ja.Steps.nil
  intro L vals w3 hall hJ;clear hAt2;have hG3 := hJ.q;obtain ⟨sP0, AP1, kP1, cP1, AP2, kP2, cP2, hP3, nP3⟩ := iQ (g := w.heap.size) (t := 25) (hJ.stored 0 rfl rfl (hall 8 (by decide))) (show Nq w3 (vals 0) (p) from hJ.s 0 (hall 0 (by decide)));obtain ⟨AR1, kR1, cR1, AR2, kR2, cR2, hR3, nR3⟩ := dZ (g := w.heap.size + 1) (t := 32) (hJ.stored 1 rfl rfl (hall 9 (by decide))) (show Rq w3 (vals 1) (p) from hJ.s 1 (hall 1 (by decide)));have hX3 : Bx w3 (gX) 25 [.bool sX0, .slice AX1 kX1 cX1, .slice AX2 kX2 cX2] := NbV.out (hJ.still 2 rfl rfl (Nat.le_of_ble_eq_true (by kernel_rfl)));have nX3 : Nq w3 (.agg #[.bool sX0, .slice AX1 kX1 cX1, .slice AX2 kX2 cX2]) (p) := hJ.kept 0 rfl;have hY3 : Bx w3 (gY) 32 [.int .i64 (sn (p)), .slice AY1 kY1 cY1, .slice AY2 kY2 cY2] := NbV.out (hJ.still 3 rfl rfl (Nat.le_of_ble_eq_true (by kernel_rfl)));have nY3 : Rq w3 (.agg #[.int .i64 (sn (p)), .slice AY1 kY1 cY1, .slice AY2 kY2 cY2]) (p) := hJ.kept 1 rfl;have f4 : vals 10 = .bool false := hJ.s 10 (hall 10 (by decide));rw [f4];clear f4;clear hall hJ;go_wp2_with fail
  have zP0 : w3.cell? ⟨w.heap.size, 0, none⟩ = some (.bool sP0) := hP3.cell 0 rfl;have zP1 : w3.cell? ⟨w.heap.size, 1, none⟩ = some (.slice AP1 kP1 cP1) := hP3.cell 1 rfl;have zP2 : w3.cell? ⟨w.heap.size, 2, none⟩ = some (.slice AP2 kP2 cP2) := hP3.cell 2 rfl;have zR0 : w3.cell? ⟨w.heap.size + 1, 0, none⟩ = some (.int .i64 (sn (p))) := hR3.cell 0 rfl;have zR1 : w3.cell? ⟨w.heap.size + 1, 1, none⟩ = some (.slice AR1 kR1 cR1) := hR3.cell 1 rfl;have zR2 : w3.cell? ⟨w.heap.size + 1, 2, none⟩ = some (.slice AR2 kR2 cR2) := hR3.cell 2 rfl;refine bodyPost_ret (v := .tuple #[.agg #[.bool sP0, .slice AP1 kP1 cP1, .slice AP2 kP2 cP2], .agg #[.int .i64 (sn (p)), .slice AR1 kR1 cR1, .slice AR2 kR2 cR2], .bool false]) (by simp [results, Tryz.results26, go_sem, zP0, zP1, zP2, zR0, zR1, zR2]) rfl ?_;exact ⟨_, _, by rw [Hca.out, decide_eq_false HZ.out], by rw [Hp.out]; exact nP3, by rw [Hp.out]; exact nR3, hG3⟩
end Go.Proofs.YtgokbhikgdhmpaaGreatDoor.K
