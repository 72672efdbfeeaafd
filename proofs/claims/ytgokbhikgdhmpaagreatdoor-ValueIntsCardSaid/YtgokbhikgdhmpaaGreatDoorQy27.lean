/- x. Part of the proof: texts Kd1 Rb1 Kd2. -/
import Derived.Lib.IndexBytes
import Derived.Test.YtgokbhikgdhmpaaGreatDoorQy01
import Derived.Test.YtgokbhikgdhmpaaGreatDoorQy02
import Derived.Test.YtgokbhikgdhmpaaGreatDoorQy21
import Derived.Test.YtgokbhikgdhmpaaGreatDoorQy22
import Derived.Test.YtgokbhikgdhmpaaGreatDoorQy24
import Derived.Test.YtgokbhikgdhmpaaGreatDoorQy25
import Derived.Test.YtgokbhikgdhmpaaGreatDoorQy26
set_option maxHeartbeats 8000000
namespace Go.Proofs.YtgokbhikgdhmpaaGreatDoor.K
open Go.RowKit
open Ma Me
def nV (l : List UInt8) : Bool := l.all (fun c => decide (48 ≤ c.toNat ∧ c.toNat ≤ 57)) && !l.isEmpty
theorem rT {l : List UInt8} : nV l = true ↔ bR l ∧ l ≠ [] := by
 unfold nV bR;cases l <;> simp
theorem zL {l : List UInt8} {i : Nat} {c : UInt8} {f : UInt8 → Bool} (h : (l.take i).all f = true) (hc : l[i]? = some c) (h1 : f c = true) : (l.take (i + 1)).all f = true := by
 rw [List.take_add_one, hc];simp only [Option.toList_some, List.all_append, h, List.all_cons, h1, List.all_nil, Bool.and_self]
theorem aBO {l : List UInt8} {i : Nat} {c : UInt8} {f : UInt8 → Bool} (hc : l[i]? = some c) (h1 : f c = false) : l.all f = false := by
 have hm := List.mem_of_getElem? hc;cases h : l.all f with
 | false => rfl
 | true => rw [List.all_eq_true.1 h c hm] at h1; cases h1
theorem lH (s : ByteArray) : s.data.toList.length = s.size := by rw [Array.length_toList]; rfl
set_option maxRecDepth 100000 in
theorem aAZ (s : ByteArray) (w : World) (hs : s.size ≤ 9223372036854775806) : Calls Tryz.prog 108 #[.string s] w fun e w' => e = .returned (.bool (nV s.data.toList)) ∧ Q w w' := by
 go_enter Tryz.func108, Tryz.ntmps108
 go_wp2_with fail
 go_loopw [3] (fun iv w1 => ∃ i : Nat, iv = .int .i64 (i : Int) ∧ i ≤ s.size ∧ Hid ((s.data.toList.take i).all (fun c => decide (48 ≤ c.toNat ∧ c.toNat ≤ 57)) = true) ∧ w1 = w) (fun iv _ => s.size - (intOf iv).toNat)
 case atStart => exact ⟨0, rfl, by omega, Lib.hid (by simp), rfl⟩
 case round =>
  obtain ⟨i, rfl, hi, hall, rfl⟩ := hrel;by_cases hp : i < s.size
  ·have h1 : (i : Int) < (s.size : Int) := (by omega);have h0 : (0 : Int) ≤ (i : Int) := (by omega);have hby := byte_at hp;have h2 : (i : Int).toNat = i := rfl;generalize hb : s[i]'hp = b at *
   have HBY := Lib.hid hby; clear hby;by_cases hlo : b.toNat < 48
   ·have hl2 : (b.toNat : Int) < 48 := (by omega);have HY := Lib.hid (aBO (f := fun c => decide (48 ≤ c.toNat ∧ c.toNat ≤ 57)) HBY.out (decide_eq_false (by omega)));clear hlo;go_wp2_with fail
    go_ret
    exact ⟨by unfold nV; rw [HY.out]; rfl, Q.refl _⟩
   ·by_cases hhi : 57 < b.toNat
    ·have hl2 : ¬ (b.toNat : Int) < 48 := (by omega);have hl3 : (57 : Int) < (b.toNat : Int) := (by omega);have HY := Lib.hid (aBO (f := fun c => decide (48 ≤ c.toNat ∧ c.toNat ≤ 57)) HBY.out (decide_eq_false (by omega)));clear hlo hhi;go_wp2_with fail
     go_ret
     exact ⟨by unfold nV; rw [HY.out]; rfl, Q.refl _⟩
    ·have hl2 : ¬ (b.toNat : Int) < 48 := (by omega);have hl3 : ¬ (57 : Int) < (b.toNat : Int) := (by omega);have HN := Lib.hid (zL hall.out HBY.out (decide_eq_true (by omega)));clear hlo hhi;go_wp2_with fail
     exact ⟨⟨i + 1, rfl, by omega, HN, trivial⟩, by simp [intOf]; omega⟩
  ·have h1 : ¬ (i : Int) < (s.size : Int) := (by omega);have hno2 : nV s.data.toList = decide (0 < s.size) := by
    have h := hall.out;rw [List.take_of_length_le (by rw [lH]; omega)] at h;unfold nV;rw [h, Bool.true_and];have := lH s;cases e : s.data.toList with
    | nil => rw [e] at this; simp only [List.length_nil] at this; simp [← this]
    | cons a r => rw [e] at this; simp only [List.length_cons] at this; rw [decide_eq_true (by omega)]; rfl
   have HY := Lib.hid hno2; clear hno2;go_wp2_with fail
   go_ret
   exact ⟨by rw [HY.out]; simp, Q.refl _⟩
theorem yC {l : List UInt8} {c : UInt8} {i : Nat} (h : c ∉ l.take i) (hb : l[i]? = some c) : fJ c l = l.take i ∧ aft c l = l.drop (i + 1) ∧ c ∈ l := by
 have hlt : i < l.length := (List.getElem?_eq_some_iff.1 hb).1;have e : l = l.take i ++ c :: l.drop (i + 1) := by
  conv => lhs; rw [← List.take_append_drop i l]
  rw [List.drop_eq_getElem_cons hlt];rw [(List.getElem?_eq_some_iff.1 hb).2]
 obtain ⟨h1, h2⟩ := fore_of' (c := c) (f := l.take i) (l.drop (i + 1)) h;rw [← e] at h1 h2;exact ⟨h1, h2, List.mem_of_getElem? hb⟩
theorem uB {l : List UInt8} {c : UInt8} (h : c ∉ l) : fJ c l = l ∧ aft c l = [] := by
 rcases qQ c l with ⟨_, h1, h2⟩ | ⟨h1, _⟩
 ·exact ⟨h1, h2⟩
 ·exact absurd h1 h
set_option maxRecDepth 100000 in
theorem aFD (s : ByteArray) (c : UInt8) (bt : Bool) (w : World) (hbt : decide (c ∈ s.data.toList) = bt) (hs : s.size ≤ 9223372036854775806) : Calls Tryz.prog 107 #[.string s, .int .u8 (c.toNat : Int)] w fun e w' =>
  ∃ f r : ByteArray, e = .returned (.tuple #[.string f, .string r, .bool bt]) ∧ f.data.toList = fJ c s.data.toList ∧ r.data.toList = aft c s.data.toList ∧ f.size ≤ s.size ∧ r.size ≤ s.size ∧ Q w w' := by
 go_enter Tryz.func107, Tryz.ntmps107
 go_wp2_with fail
 go_loopw [7] (fun iv w1 => ∃ i : Nat, iv = .int .i64 (i : Int) ∧ i ≤ s.size ∧ Hid (c ∉ s.data.toList.take i) ∧ w1 = w) (fun iv _ => s.size - (intOf iv).toNat)
 case atStart => exact ⟨0, rfl, by omega, Lib.hid (by simp), rfl⟩
 case round =>
  obtain ⟨i, rfl, hi, hno, rfl⟩ := hrel;by_cases hp : i < s.size
  ·have h1 : (i : Int) < (s.size : Int) := (by omega);have h0 : (0 : Int) ≤ (i : Int) := (by omega);have hby := byte_at hp;have h2 : (i : Int).toNat = i := rfl;generalize hb : s[i]'hp = b at *
   have HBY := Lib.hid hby; clear hby;by_cases hc : b = c
   ·subst hc;obtain ⟨e1, e2, e3⟩ := yC hno.out HBY.out;have hbt1 : bt = true := (by rw [← hbt]; exact decide_eq_true e3);subst hbt1;clear hbt e3;have E1 := Lib.hid e1; have E2 := Lib.hid e2; clear e1 e2;have h3 : (i : Int) ≤ (s.size : Int) := (by omega);have h4 : (0 : Int) ≤ (i : Int) + 1 := (by omega);have h5 : (i : Int) + 1 ≤ (s.size : Int) := (by omega);go_wp2_with fail
    go_region
    go_wp2_with fail
    refine bodyPost_ret (v := .tuple #[.string (s.extract 0 i), .string (s.extract (i + 1) s.size), .bool true]) (by simp [results, Tryz.results107, go_sem]) rfl ?_;exact ⟨s.extract 0 i, s.extract (i + 1) s.size, rfl, by rw [E1.out]; simp, by rw [E2.out, Lib.extract_to_end], by simp; try omega, by simp, (Q.refl _).drew⟩
   ·have hn : ¬ (b.toNat : Int) = (c.toNat : Int) := fun h => hc (UInt8.toNat_inj.1 (by omega));have HN := Lib.hid (aAY hno.out HBY.out hc);clear hc;go_wp2_with fail
    exact ⟨⟨i + 1, rfl, by omega, HN, trivial⟩, by simp [intOf]; omega⟩
  ·have h1 : ¬ (i : Int) < (s.size : Int) := (by omega);have hno2 : c ∉ s.data.toList := by
    have h := hno.out
    rwa [List.take_of_length_le (by rw [lH]; omega)] at h
   have hbt1 : bt = false := (by rw [← hbt]; exact decide_eq_false hno2);subst hbt1;clear hbt;have HY := Lib.hid hno2; clear hno2;go_wp2_with fail
   refine bodyPost_ret (v := .tuple #[.string s, .string ⟨#[]⟩, .bool false]) (by simp [results, Tryz.results107, go_sem]) rfl ?_;exact ⟨s, ⟨#[]⟩, rfl, (uB HY.out).1.symm, (uB HY.out).2.symm, Nat.le_refl _, Nat.zero_le _, Q.refl _⟩
set_option maxRecDepth 100000 in
theorem aEK (s : ByteArray) (sg : Int) (w : World) (hsg : (if eF s.data.toList then -1 else 1) = sg) (_ : s.size ≤ 9223372036854775806) : Calls Tryz.prog 106 #[.string s] w fun e w' =>
  ∃ f : ByteArray, e = .returned (.tuple #[.string f, .int .i64 sg]) ∧ f.data.toList = unsigned s.data.toList ∧ f.size ≤ s.size ∧ Q w w' := by
 by_cases hp : 0 < s.size
 ·have h1 : (0 : Int) < (s.size : Int) := (by omega);have hby := byte_at hp;generalize hb : s[0]'hp = b at *
  have hh : s.data.toList.head? = some b := (by rw [← hby, List.head?_eq_getElem?]);by_cases hc : b = 45
  ·subst hc;have hn : eF s.data.toList = true := (by unfold eF; rw [hh]; rfl);have h3 : (1 : Int) ≤ (s.size : Int) := (by omega);obtain rfl : -1 = sg := (by rw [← hsg, hn]; rfl);clear hsg;have HN := Lib.hid hn; clear hn hby hh;go_enter Tryz.func106, Tryz.ntmps106
   go_wp2_with fail
   refine bodyPost_ret (v := .tuple #[.string (s.extract 1 s.size), .int .i64 (-1)]) (by simp [results, Tryz.results106, go_sem]) rfl ?_;exact ⟨_, rfl, by rw [Lib.extract_to_end]; unfold unsigned; rw [if_pos HN.out, List.drop_one], by simp, Q.refl _⟩
  ·have hn : eF s.data.toList = false := (by unfold eF; rw [hh]; simpa using hc);have hn3 : ¬ (b.toNat : Int) = 45 := fun h => hc (UInt8.toNat_inj.1 (by have : (45 : UInt8).toNat = 45 := rfl; omega));obtain rfl : 1 = sg := (by rw [← hsg, hn]; rfl);clear hsg;have HN := Lib.hid hn; clear hn hby hh hc;go_enter Tryz.func106, Tryz.ntmps106
   go_wp2_with fail
   refine bodyPost_ret (v := .tuple #[.string s, .int .i64 1]) (by simp [results, Tryz.results106, go_sem]) rfl ?_;exact ⟨_, rfl, by unfold unsigned; rw [HN.out]; rfl, Nat.le_refl _, Q.refl _⟩
 ·have h1 : ¬ (0 : Int) < (s.size : Int) := (by omega);have e : s.data.toList = [] := List.eq_nil_of_length_eq_zero (by rw [lH]; omega);have hn : eF s.data.toList = false := (by rw [e]; rfl);obtain rfl : 1 = sg := (by rw [← hsg, hn]; rfl);clear hsg;have HN := Lib.hid hn; clear hn e;go_enter Tryz.func106, Tryz.ntmps106
  go_wp2_with fail
  refine bodyPost_ret (v := .tuple #[.string s, .int .i64 1]) (by simp [results, Tryz.results106, go_sem]) rfl ?_;exact ⟨_, rfl, by unfold unsigned; rw [HN.out]; rfl, Nat.le_refl _, Q.refl _⟩
end Go.Proofs.YtgokbhikgdhmpaaGreatDoor.K
namespace Go.Proofs.YtgokbhikgdhmpaaGreatDoor
open Go.RowKit
open Ma Me
set_option maxRecDepth 100000 in
theorem jL (s : ByteArray) (w : World) (hd : bR s.data.toList) (hs : s.size + 80 ≤ LIM) :
  Calls Tryz.prog 110 #[.string s] w (nW (dv s.data.toList) w) := by
 rw [aA] at hs;obtain ⟨L, hL⟩ : ∃ L, L = s.data.toList := ⟨_, rfl⟩
 have hLs : L.length = s.size := by rw [hL, Array.length_toList]; rfl
 rw [← hL] at hd ⊢;have HL := Lib.hid hL;have HLs := Lib.hid hLs; clear hL hLs;go_enter Tryz.func110, Tryz.ntmps110
 go_wp2_with fail
 go_loopw [0, 3] (fun sv ov w1 => ∃ (t : ByteArray) (k : Nat), sv = .string t ∧ k ≤ s.size ∧ t.data.toList = L.drop k ∧ t.size = s.size - k ∧ Nr w1 ov (dv (L.take k)) ∧ Q w w1 ∧ Nw w.heap.size ov) (fun sv _ _ => match sv with | .string t => t.size | _ => 0)
 case atStart => exact ⟨s, 0, rfl, by omega, by rw [HL.out]; rfl, by omega, Nn.zero _ _, Q.refl _, Nw.nil⟩
 case round =>
  obtain ⟨t, k, rfl, hk, ht, hts, hov, hq, hnw⟩ := hrel;have HT := Lib.hid ht;have HTS := Lib.hid hts;clear ht hts;have hts2 : t.size ≤ 1099511627776 := (by have := HTS.out; omega);rcases Nat.eq_zero_or_pos t.size with h0 | h0
  ·go_wp2_with fail
   go_ret
   have e : k = s.size := (by have := HTS.out; omega);rw [List.take_of_length_le (by rw [HLs.out]; omega)] at hov;exact ⟨_, rfl, hov, hq, hnw⟩
  ·obtain ⟨n, hn⟩ : ∃ n, n = min t.size 9 := ⟨_, rfl⟩
   have hn1 : n ≤ 9 := (by omega);have hn2 : n ≤ t.size := (by omega);have hn3 : 0 < n := (by omega);have hcase : t.size < 9 ∧ t.size ≤ n ∨ 9 ≤ t.size ∧ t.size ≤ 9 ∧ 9 ≤ n ∨ 9 < t.size ∧ 9 ≤ n := (by omega);clear hn;have HD : bR (t.data.toList) := (by rw [HT.out]; exact hd.drop k);have HTL : t.data.toList.length = t.size := (by rw [Array.length_toList]; rfl);have HTL := Lib.hid HTL;rcases hcase with ⟨h9, h9a⟩ | ⟨h9, h9b, h9a⟩ | ⟨h9, h9a⟩
   all_goals
    go_wp2_with fail
    obtain ⟨wo, rfl⟩ : ∃ wo : World, wo = wr := ⟨_, rfl⟩
    go_loop [5, 6, 7] (fun pv fv iv => ∃ (i p f : Nat), i ≤ n ∧ iv = .int .i64 (i : Int) ∧ pv = .int .i64 (p : Int) ∧ fv = .int .i64 (f : Int) ∧ p = dv (t.data.toList.take i) ∧ f = 10 ^ i ∧ p < f ∧ f ≤ 1000000000) (fun _ _ iv => n - (intOf iv).toNat)
    case atStart => exact ⟨0, 0, 1, by omega, rfl, rfl, rfl, rfl, rfl, by omega, by omega⟩
    case round =>
     obtain ⟨i, p, f, hi, rfl, rfl, rfl, hp, hf, hpf, hf9⟩ := hrel;have HP := Lib.hid hp; have HF := Lib.hid hf; clear hp hf;by_cases hlt : i < n
     ·have hit : i < t.size := (by omega);have hc := HD (t[i]) (by rw [show t[i] = t.data.toList[i]'(by rw [HTL.out]; exact hit) from by simp; rfl]; exact List.getElem_mem _);have hei : t.data.toList[i]'(by rw [HTL.out]; exact hit) = t[i] := (by simp; rfl);have hp2 : 10 * p + (t[i].toNat - 48) = dv (t.data.toList.take (i + 1)) := by
       rw [sH (by rw [HTL.out]; exact hit), hei, ← HP.out]
      have hf2 : 10 * f = 10 ^ (i + 1) := (by rw [Nat.pow_succ, ← HF.out, Nat.mul_comm]);have hf3 : 10 ^ (i + 1) ≤ 10 ^ 9 := Nat.pow_le_pow_right (by decide) (by omega);have hf4 : 10 * f ≤ 1000000000 := (by rw [hf2]; exact hf3);have HP2 := Lib.hid hp2; have HF2 := Lib.hid hf2;clear hp2 hf2 hf3 hei;go_wp2_with fail
      exact ⟨⟨i + 1, 10 * p + (t[i].toNat - 48), 10 * f, by omega, by go_num, congrArg (Value.int _) (by omega), congrArg (Value.int _) (by omega), HP2.out, HF2.out, by omega, hf4⟩, by simp [intOf]; omega⟩
     ·obtain rfl : i = n := (by omega);have lval : dg B30 (dv (L.take k)) + 1 ≤ LIM := by
       have h1 : dg B30 (dv (L.take k)) ≤ (L.take k).length := by
        refine fI aH (Nat.lt_of_lt_of_le (uG (hd.take k)) (Nat.pow_le_pow_left (by decide) _))
       rw [List.length_take, HLs.out] at h1;rw [aA]; omega
      have lf : dg B30 f ≤ 1 := fI aH (by rw [Nat.pow_one, aR]; omega);have lp : dg B30 p ≤ 1 := fI aH (by rw [Nat.pow_one, aR]; omega);have lmul := bU aH (dv (L.take k)) f;have lks : dg B30 (dv (L.take k)) + 10 ≤ LIM := by
       have h1 : dg B30 (dv (L.take k)) ≤ (L.take k).length := by
        refine fI aH (Nat.lt_of_lt_of_le (uG (hd.take k)) (Nat.pow_le_pow_left (by decide) _))
       rw [List.length_take, HLs.out] at h1;rw [aA]; omega
      have hval : dv (L.take k) * f + p = dv (L.take (k + i)) := by
       rw [List.take_add, aCQ, ← HT.out, ← HP.out, HF.out, List.length_take, HTL.out, Nat.min_eq_left hn2]
      have HV := Lib.hid hval; clear hval;go_wp2_with fail
      refine (uO _ f _ rfl (by omega)).mono ?_;rintro e w2 ⟨vf, rfl, hvf, hq2, -⟩;go_wp2_with fail
      refine (gW _ _ _ f _ (hov.q hq2) hvf (by omega)).mono ?_;rintro e w3 ⟨vt, rfl, hvt, hq3, -⟩;go_wp2_with fail
      refine (uO _ p _ rfl (by omega)).mono ?_;rintro e w4 ⟨vp, rfl, hvp, hq4, -⟩;go_wp2_with fail
      refine (xE _ _ _ p _ (hvt.q hq4) hvp (by omega) (by omega)).mono ?_;rintro e w5 ⟨vs, rfl, hvs, hq5, hnw5⟩;have hqq := ((hq2.trans hq3).trans hq4).trans hq5;have hnw6 : Nw w.heap.size vs := hnw5.more (by have := hq.size; have := hq2.size; have := hq3.size; have := hq4.size; omega);rw [HV.out] at hvs;clear lmul hvt hvp hvf;have hkk : k + i ≤ s.size := (by have := HTS.out; omega);go_wp2_with fail
      first
      | (refine ⟨⟨ByteArray.empty, k + i, rfl, hkk, ?_, ?_, hvs, hq.trans hqq, hnw6⟩, ?_⟩
         ·rw [List.drop_of_length_le (by rw [HLs.out]; have := HTS.out; omega)]; rfl
         ·have := HTS.out; show 0 = _; omega
         ·show 0 < t.size; omega)
      | (refine ⟨⟨t.extract 9 t.size, k + i, rfl, hkk, ?_, ?_, hvs, hq.trans hqq, hnw6⟩, ?_⟩
         ·obtain rfl : i = 9 := (by omega);rw [Lib.extract_to_end, HT.out, List.drop_drop]
         ·have := HTS.out; rw [ByteArray.size_extract]; omega
         ·show (t.extract 9 t.size).size < t.size;rw [ByteArray.size_extract]; omega)
      | (have hmin : (min (t.size : Int) 9).toNat = i := by omega
         refine ⟨⟨t.extract (min (t.size : Int) 9).toNat t.size, k + i, rfl, hkk, ?_, ?_, hvs, hq.trans hqq, hnw6⟩, ?_⟩
         ·rw [hmin, Lib.extract_to_end, HT.out, List.drop_drop]
         ·have := HTS.out; rw [hmin, ByteArray.size_extract]; omega
         ·show (t.extract (min (t.size : Int) 9).toNat t.size).size < t.size;rw [hmin, ByteArray.size_extract]; omega)
end Go.Proofs.YtgokbhikgdhmpaaGreatDoor
namespace Go.Proofs.YtgokbhikgdhmpaaGreatDoor.K
open Go.RowKit
open Ma Me
theorem dX {w a : World} {g : Nat} {row : List Value} (hR : Bx w g 32 row) (hl : row.length = 3) (hQ : Q a w) (hg : a.heap.size ≤ g) : Bx (((w.setCell ⟨g, 0, none⟩ (.int .i64 0)).setCell ⟨g, 1, none⟩ (.slice none 0 0)).setCell ⟨g, 2, none⟩ (.slice none 0 0)) g 32 [.int .i64 0, .slice none 0 0, .slice none 0 0] ∧ Q a (((w.setCell ⟨g, 0, none⟩ (.int .i64 0)).setCell ⟨g, 1, none⟩ (.slice none 0 0)).setCell ⟨g, 2, none⟩ (.slice none 0 0)) :=
 ⟨hR.put (l := [.int .i64 0, .slice none 0 0, .slice none 0 0]) hl, kR (l := [.int .i64 0, .slice none 0 0, .slice none 0 0]) hQ hg⟩
theorem nC {f : List UInt8} (h : nV f = true) (hl : ¬ 1 < f.length ∨ f.head? ≠ some 48) : Row f := by
 obtain ⟨h1, h2⟩ := rT.1 h;refine ⟨h1, h2, fun h3 => ?_⟩;rcases hl with h4 | h4
 ·match f, h2, h3, h4 with
  | [c], _, h3, _ => simp at h3; rw [h3]
  | c :: d :: r, _, _, h4 => simp at h4
 ·exact absurd h3 h4
theorem aDJ {f : List UInt8} (h : nV f = false) : ¬ Row f := fun hr => by
 rw [rT.2 ⟨hr.1, hr.2.1⟩] at h; cases h
theorem aBP {f : List UInt8} (h1 : 1 < f.length) (h2 : f.head? = some 48) : ¬ Row f := fun hr => by
 rw [hr.2.2 h2] at h1; simp at h1
theorem aA0 {neg two : Bool} {f b : List UInt8} (h : ¬ Row f) : aL neg f b two = (6, 0) := if_pos (.inl h)
theorem qC {neg : Bool} {f b : List UInt8} (h : ¬ Row b ∨ b = [48] ∨ b = [49]) : aL neg f b true = (6, 0) := by
 unfold aL;split
 ·rfl
 ·rw [if_pos ⟨rfl, h⟩]
theorem zA {b : List UInt8} (h2 : b.head? = some 48) : ¬ Row b ∨ b = [48] ∨ b = [49] := by
 by_cases h : Row b
 ·exact .inr (.inl (h.2.2 h2))
 ·exact .inl h
theorem uS {s : ByteArray} {l : List UInt8} (h : s.data.toList = l) (hp : 0 < s.size) : l.head? = some (s[0]'hp) := by
 rw [List.head?_eq_getElem?, ← h]; exact byte_at hp
theorem aA1 {neg : Bool} {n : Nat} {sg : Int} (h : (if neg then -1 else 1) = sg) : mkQ neg n 1 * ((1 : Nat) : Rat) = (sg : Rat) * (n : Rat) := by
 have h1 := (fK (neg := neg) (n := n) (d := 1) (by decide) (Nat.gcd_one_right n)).1;have h2 := (fK (neg := neg) (n := n) (d := 1) (by decide) (Nat.gcd_one_right n)).2;have h3 := oW (mkQ neg n 1);rw [h2] at h3;rw [← h3, h1, ← h];cases neg
 ·show (((n : Nat) : Int) : Rat) = ((1 : Int) : Rat) * (n : Rat)
  rw [Rat.intCast_natCast]; simp
 ·show ((-(n : Int) : Int) : Rat) = ((-1 : Int) : Rat) * (n : Rat)
  rw [Rat.intCast_neg, Rat.intCast_natCast];have e : ((-1 : Int) : Rat) = -1 := rfl;rw [e]; grind
theorem aBQ {neg : Bool} {n d : Nat} {sg : Int} (h : (if neg then -1 else 1) = sg) (hn : 0 < n) (hd : 0 < d) (hc : Nat.gcd n d = 1) : sg = sn (mkQ neg n d) ∧ (mkQ neg n d).num.natAbs = n ∧ (mkQ neg n d).den = d := by
 obtain ⟨h1, h2⟩ := fK (neg := neg) hd hc;refine ⟨?_, ?_, h2⟩
 ·rw [nJ, h1, ← h];cases neg
  ·exact (Int.sign_eq_one_of_pos (show (0 : Int) < (n : Int) by omega)).symm
  ·exact (Int.sign_eq_neg_one_of_neg (show (-(n : Int)) < 0 by omega)).symm
 ·rw [h1]; cases neg <;> simp
theorem qF {l : List UInt8} (h : Row l) (h0 : l ≠ [48]) : 0 < dv l := by
 rcases Nat.eq_zero_or_pos (dv l) with e | e
 ·have h1 := aAb h;rw [e, rC] at h1;exact absurd h1.symm h0
 ·exact e
theorem rU {l : List UInt8} (h : bR l) (hl : ¬ 1000 < l.length) : 31 * dg B30 (dv l) + 80 ≤ LIM := by
 have h1 : dg B30 (dv l) ≤ l.length := fI aH (Nat.lt_of_lt_of_le (uG h) (Nat.pow_le_pow_left (by decide) _));rw [aA]; omega
set_option maxRecDepth 100000 in
theorem aFE (s : ByteArray) (w : World) (hs : s.size ≤ 9223372036854775806) :
  Calls Tryz.prog 17 #[.string s] w fun e w' => ∃ r, e = .returned (.tuple #[r, .int .i64 (aZ s.data.toList).1]) ∧ Rq w' r (aZ s.data.toList).2 ∧ Q w w' := by
 obtain ⟨W, hW, hG0, hR0⟩ := aCa w 32 [.int .i64 0, .slice none 0 0, .slice none 0 0];obtain ⟨neg, hneg⟩ : ∃ neg, eF s.data.toList = neg := ⟨_, rfl⟩
 obtain ⟨two, htwo⟩ : ∃ two, decide (47 ∈ unsigned s.data.toList) = two := ⟨_, rfl⟩
 obtain ⟨f, hf⟩ : ∃ f, fJ 47 (unsigned s.data.toList) = f := ⟨_, rfl⟩
 obtain ⟨b, hb⟩ : ∃ b, aft 47 (unsigned s.data.toList) = b := ⟨_, rfl⟩
 obtain ⟨sg, hsg⟩ : ∃ sg : Int, (if neg then -1 else 1) = sg := ⟨_, rfl⟩
 have hb2 : two = false → b = [] := fun h => by rw [← hb]; exact (uB (of_decide_eq_false (htwo.trans h))).2
 have hP : aZ s.data.toList = aL neg f b two := by unfold aZ; rw [hneg, htwo, hf, hb]
 have HP := Lib.hid hP; have HN := Lib.hid hneg; have HT2 := Lib.hid htwo; have HF := Lib.hid hf; have HBb := Lib.hid hb; have HB2 := Lib.hid hb2; have HSG := Lib.hid hsg;clear hP hneg htwo hf hb hb2 hsg;go_enter Tryz.func17, Tryz.ntmps17
 go_wp2_with fail
 clear hW;refine (aEK s sg _ (by rw [HN.out]; exact HSG.out) hs).mono ?_;rintro e w1 ⟨a, rfl, ha, hsz, hq1⟩;have hG1 := hG0.trans hq1; have hR1 := hR0.q hq1;clear hG0 hR0 hq1;have HA := Lib.hid ha; clear ha;go_wp2_with fail
 refine (aFD a 47 two _ (by rw [HA.out]; exact HT2.out) (by omega)).mono ?_;rintro e w2 ⟨fa, fb, rfl, hfa, hfb, hza, hzb, hq2⟩;have hG2 := hG1.trans hq2; have hR2 := hR1.q hq2;clear hG1 hR1 hq2;rw [HA.out] at hfa hfb;rw [HF.out] at hfa;rw [HBb.out] at hfb;have la : fa.size = f.length := by rw [← hfa, lH]
 have lb : fb.size = b.length := by rw [← hfb, lH]
 have ta : fa.toList = f := (ByteArray.toList_eq _).trans hfa;have tb : fb.toList = b := (ByteArray.toList_eq _).trans hfb;have HFA := Lib.hid hfa; have HFB := Lib.hid hfb; have LA := Lib.hid la; have LB := Lib.hid lb; have TA := Lib.hid ta; have TB := Lib.hid tb; clear hfa hfb la lb ta tb;have HSZ : Hid (fa.size ≤ 9223372036854775806 ∧ fb.size ≤ 9223372036854775806) := Lib.hid (by omega);clear hza hzb hsz;go_wp2_with fail
 refine (aAZ fa _ HSZ.out.1).mono ?_;rintro e w3 ⟨rfl, hq3⟩;have hG3 := hG2.trans hq3; have hR3 := hR2.q hq3;clear hG2 hR2 hq3;rw [HFA.out];by_cases hd : nV f = true
 ·rw [hd];have HDF := Lib.hid hd; clear hd;cases two
  ·by_cases hl1 : 1 < fa.size
   ·have h1 : (1 : Int) < (fa.size : Int) := (by omega);have hp0 : 0 < fa.size := (by omega);have hcc := uS HFA.out hp0;generalize hca : fa[0]'hp0 = ca at *
    by_cases hc1 : ca = 48
    ·subst hc1;have HH := Lib.hid (aBP (by rw [← LA.out]; exact hl1) hcc); clear hcc hl1;have fz := hR3.frozen;have r0 := hR3.cell 0 rfl;have r1 := hR3.cell 1 rfl;have r2 := hR3.cell 2 rfl;go_wp2_with fail
     obtain ⟨hb9, hq9⟩ := dX hR3 rfl hG3 (Nat.le_refl _);have z0 := hb9.cell 0 rfl;have z1 := hb9.cell 1 rfl;have z2 := hb9.cell 2 rfl;refine bodyPost_ret (v := .tuple #[.agg #[.int .i64 0, .slice none 0 0, .slice none 0 0], .int .i64 6]) (by simp [results, Tryz.results17, go_sem, z0, z1, z2]) rfl ?_;rw [HP.out, (aA0 HH.out : aL _ _ _ _ = (6, 0))];exact ⟨_, rfl, Rq.none _, hq9⟩
    ·have hn1 : ¬ (ca.toNat : Int) = 48 := fun h => hc1 (UInt8.toNat_inj.1 (by have : (48 : UInt8).toNat = 48 := rfl; omega));have hn1b : ((ca.toNat : Int) == 48) = false := beq_eq_false_iff_ne.2 hn1;have HRW : Hid (Row f) := Lib.hid (nC HDF.out (.inr (by rw [hcc]; exact fun h => hc1 (Option.some.inj h))));clear hcc hc1;have HBN := Lib.hid (HB2.out rfl);have t1 : (fb.toList == [49]) = false := (by rw [TB.out, HBN.out]; rfl);have hz : ¬ f = [48] := fun h => (by have h9 := LA.out; rw [h] at h9; simp at h9; omega);have t0 : (fa.toList == [48]) = false := (by rw [TA.out]; exact beq_eq_false_iff_ne.2 hz);have HZ2 : Hid (f = [48] ∧ (neg = true ∨ false = true) → False) := Lib.hid (fun h => hz h.1);clear hz;by_cases hl1 : 1000 < f.length
     ·have hl2 : (1000 : Int) < (fa.size : Int) := (by rw [LA.out]; omega);have Hl1 := Lib.hid hl1; clear hl1;have fz := hR3.frozen;have r0 := hR3.cell 0 rfl;have r1 := hR3.cell 1 rfl;have r2 := hR3.cell 2 rfl;go_wp2_with fail
      obtain ⟨hb9, hq9⟩ := dX hR3 rfl hG3 (Nat.le_refl _);have z0 := hb9.cell 0 rfl;have z1 := hb9.cell 1 rfl;have z2 := hb9.cell 2 rfl;refine bodyPost_ret (v := .tuple #[.agg #[.int .i64 0, .slice none 0 0, .slice none 0 0], .int .i64 3]) (by simp [results, Tryz.results17, go_sem, z0, z1, z2]) rfl ?_;rw [HP.out, (kP (.inl Hl1.out) HRW.out HZ2.out (fun h => by cases h) : aL _ _ _ _ = (3, 0))];exact ⟨_, rfl, Rq.none _, hq9⟩
     ·have hl2 : ¬ (1000 : Int) < (fa.size : Int) := (by rw [LA.out]; omega);have Hl1 := Lib.hid hl1; clear hl1;have hl3 : ¬ (1000 : Int) < (fb.size : Int) := (by rw [LB.out, HBN.out]; decide);have Hl2 : Hid (¬ 1000 < b.length) := Lib.hid (by rw [HBN.out]; decide);go_wp2_with fail
      refine (jL fa _ (by rw [HFA.out]; exact HRW.out.1) (by have h8 := Hl1.out; have h9 := LA.out; rw [aA]; omega)).mono ?_;rintro e w4 ⟨va, rfl, hva, hq4, -⟩;have hG4 := hG3.trans hq4; have hR4 := hR3.q hq4;rw [HFA.out] at hva;go_wp2_with fail
      refine (aCr _).mono ?_;rintro e w5 ⟨vo, rfl, hvo, hq5, -⟩;have hG5 := hG4.trans hq5; have hR5 := hR4.q hq5;have hva2 := hva.q hq5;go_wp2_with fail
      refine (iK sg _ _ (dv f) 1 (mkQ neg (dv f) 1) _ hva2 hvo (fun _ => by decide) (by have h9 := HSG.out; cases neg <;> simp at h9 <;> omega) (aA1 HSG.out) (fun h9 => by cases h9) (rU HRW.out.1 Hl1.out) (by rw [dP aH, aA]; decide)).mono ?_;rintro e w6 ⟨v, rfl, hv, hq6⟩;have hG6 := hG5.trans hq6; have hR6 := hR5.q hq6;obtain ⟨A1, n1, c1, A2, n2, c2, rfl, -⟩ := (show Rq _ _ _ from hv)
      have fz := hR6.frozen;have r0 := hR6.cell 0 rfl;have r1 := hR6.cell 1 rfl;have r2 := hR6.cell 2 rfl;go_wp2_with fail
      obtain ⟨h71, h72, h73⟩ := hv.parts;have hb9 := hR6.put (l := [.int .i64 (sn (mkQ neg (dv f) 1)), .slice A1 n1 c1, .slice A2 n2 c2]) rfl;have hv9 := hv.ap (g := w.heap.size) (w' := gF w6 w.heap.size 0 [.int .i64 (sn (mkQ neg (dv f) 1)), .slice A1 n1 c1, .slice A2 n2 c2]) ⟨fun k hk => iL hk, jH, _, _, hR6, by decide, iJ⟩;have hq9 := kR (i := 0) (l := [.int .i64 (sn (mkQ neg (dv f) 1)), .slice A1 n1 c1, .slice A2 n2 c2]) hG6 (Nat.le_refl _);simp only [gF, Nat.reduceAdd] at hb9 hv9 hq9;have z0 := hb9.cell 0 rfl;have z1 := hb9.cell 1 rfl;have z2 := hb9.cell 2 rfl;refine bodyPost_ret (v := .tuple #[.agg #[.int .i64 (sn (mkQ neg (dv f) 1)), .slice A1 n1 c1, .slice A2 n2 c2], .int .i64 0]) (by simp [results, Tryz.results17, go_sem, z0, z1, z2]) rfl ?_;rw [HP.out, (tO HRW.out HZ2.out Hl1.out Hl2.out : aL _ _ _ _ = (0, _))];exact ⟨_, rfl, hv9, hq9⟩
   ·have h1 : ¬ (1 : Int) < (fa.size : Int) := (by omega);have HRW : Hid (Row f) := Lib.hid (nC HDF.out (.inl (by rw [← LA.out]; exact hl1)));have hsm : fa.size ≤ 1 := (by omega);clear hl1;have HBN := Lib.hid (HB2.out rfl);have t1 : (fb.toList == [49]) = false := (by rw [TB.out, HBN.out]; rfl);by_cases hz : f = [48]
    ·have t0 : (fa.toList == [48]) = true := (by rw [TA.out, hz]; rfl);cases neg
     ·have hs9 : ¬ sg < 0 := (by have h9 := HSG.out; simp at h9; omega);have HZ2 : Hid (f = [48] ∧ (false = true ∨ false = true) → False) := Lib.hid (fun h => by rcases h.2 with h | h <;> cases h);clear hz;have hl1 : ¬ 1000 < f.length := (by have h9 := LA.out; omega);have hl2 : ¬ (1000 : Int) < (fa.size : Int) := (by rw [LA.out]; omega);have Hl1 := Lib.hid hl1; clear hl1;have hl3 : ¬ (1000 : Int) < (fb.size : Int) := (by rw [LB.out, HBN.out]; decide);have Hl2 : Hid (¬ 1000 < b.length) := Lib.hid (by rw [HBN.out]; decide);go_wp2_with fail
      refine (jL fa _ (by rw [HFA.out]; exact HRW.out.1) (by have h8 := Hl1.out; have h9 := LA.out; rw [aA]; omega)).mono ?_;rintro e w4 ⟨va, rfl, hva, hq4, -⟩;have hG4 := hG3.trans hq4; have hR4 := hR3.q hq4;rw [HFA.out] at hva;go_wp2_with fail
      refine (aCr _).mono ?_;rintro e w5 ⟨vo, rfl, hvo, hq5, -⟩;have hG5 := hG4.trans hq5; have hR5 := hR4.q hq5;have hva2 := hva.q hq5;go_wp2_with fail
      refine (iK sg _ _ (dv f) 1 (mkQ false (dv f) 1) _ hva2 hvo (fun _ => by decide) (by have h9 := HSG.out; simp at h9; omega) (aA1 HSG.out) (fun h9 => by cases h9) (rU HRW.out.1 Hl1.out) (by rw [dP aH, aA]; decide)).mono ?_;rintro e w6 ⟨v, rfl, hv, hq6⟩;have hG6 := hG5.trans hq6; have hR6 := hR5.q hq6;obtain ⟨A1, n1, c1, A2, n2, c2, rfl, -⟩ := (show Rq _ _ _ from hv)
      have fz := hR6.frozen;have r0 := hR6.cell 0 rfl;have r1 := hR6.cell 1 rfl;have r2 := hR6.cell 2 rfl;go_wp2_with fail
      obtain ⟨h71, h72, h73⟩ := hv.parts;have hb9 := hR6.put (l := [.int .i64 (sn (mkQ false (dv f) 1)), .slice A1 n1 c1, .slice A2 n2 c2]) rfl;have hv9 := hv.ap (g := w.heap.size) (w' := gF w6 w.heap.size 0 [.int .i64 (sn (mkQ false (dv f) 1)), .slice A1 n1 c1, .slice A2 n2 c2]) ⟨fun k hk => iL hk, jH, _, _, hR6, by decide, iJ⟩;have hq9 := kR (i := 0) (l := [.int .i64 (sn (mkQ false (dv f) 1)), .slice A1 n1 c1, .slice A2 n2 c2]) hG6 (Nat.le_refl _);simp only [gF, Nat.reduceAdd] at hb9 hv9 hq9;have z0 := hb9.cell 0 rfl;have z1 := hb9.cell 1 rfl;have z2 := hb9.cell 2 rfl;refine bodyPost_ret (v := .tuple #[.agg #[.int .i64 (sn (mkQ false (dv f) 1)), .slice A1 n1 c1, .slice A2 n2 c2], .int .i64 0]) (by simp [results, Tryz.results17, go_sem, z0, z1, z2]) rfl ?_;rw [HP.out, (tO HRW.out HZ2.out Hl1.out Hl2.out : aL _ _ _ _ = (0, _))];exact ⟨_, rfl, hv9, hq9⟩
     ·have hs9 : sg < 0 := (by have h9 := HSG.out; simp at h9; omega);have HZ := Lib.hid hz; clear hz;have fz := hR3.frozen;have r0 := hR3.cell 0 rfl;have r1 := hR3.cell 1 rfl;have r2 := hR3.cell 2 rfl;go_wp2_with fail
      obtain ⟨hb9, hq9⟩ := dX hR3 rfl hG3 (Nat.le_refl _);have z0 := hb9.cell 0 rfl;have z1 := hb9.cell 1 rfl;have z2 := hb9.cell 2 rfl;refine bodyPost_ret (v := .tuple #[.agg #[.int .i64 0, .slice none 0 0, .slice none 0 0], .int .i64 6]) (by simp [results, Tryz.results17, go_sem, z0, z1, z2]) rfl ?_;rw [HP.out, (pX HRW.out HZ.out (.inl rfl) : aL _ _ _ _ = (6, 0))];exact ⟨_, rfl, Rq.none _, hq9⟩
    ·have t0 : (fa.toList == [48]) = false := (by rw [TA.out]; exact beq_eq_false_iff_ne.2 hz);have HZ2 : Hid (f = [48] ∧ (neg = true ∨ false = true) → False) := Lib.hid (fun h => hz h.1);clear hz;have hl1 : ¬ 1000 < f.length := (by have h9 := LA.out; omega);have hl2 : ¬ (1000 : Int) < (fa.size : Int) := (by rw [LA.out]; omega);have Hl1 := Lib.hid hl1; clear hl1;have hl3 : ¬ (1000 : Int) < (fb.size : Int) := (by rw [LB.out, HBN.out]; decide);have Hl2 : Hid (¬ 1000 < b.length) := Lib.hid (by rw [HBN.out]; decide);go_wp2_with fail
     refine (jL fa _ (by rw [HFA.out]; exact HRW.out.1) (by have h8 := Hl1.out; have h9 := LA.out; rw [aA]; omega)).mono ?_;rintro e w4 ⟨va, rfl, hva, hq4, -⟩;have hG4 := hG3.trans hq4; have hR4 := hR3.q hq4;rw [HFA.out] at hva;go_wp2_with fail
     refine (aCr _).mono ?_;rintro e w5 ⟨vo, rfl, hvo, hq5, -⟩;have hG5 := hG4.trans hq5; have hR5 := hR4.q hq5;have hva2 := hva.q hq5;go_wp2_with fail
     refine (iK sg _ _ (dv f) 1 (mkQ neg (dv f) 1) _ hva2 hvo (fun _ => by decide) (by have h9 := HSG.out; cases neg <;> simp at h9 <;> omega) (aA1 HSG.out) (fun h9 => by cases h9) (rU HRW.out.1 Hl1.out) (by rw [dP aH, aA]; decide)).mono ?_;rintro e w6 ⟨v, rfl, hv, hq6⟩;have hG6 := hG5.trans hq6; have hR6 := hR5.q hq6;obtain ⟨A1, n1, c1, A2, n2, c2, rfl, -⟩ := (show Rq _ _ _ from hv)
     have fz := hR6.frozen;have r0 := hR6.cell 0 rfl;have r1 := hR6.cell 1 rfl;have r2 := hR6.cell 2 rfl;go_wp2_with fail
     obtain ⟨h71, h72, h73⟩ := hv.parts;have hb9 := hR6.put (l := [.int .i64 (sn (mkQ neg (dv f) 1)), .slice A1 n1 c1, .slice A2 n2 c2]) rfl;have hv9 := hv.ap (g := w.heap.size) (w' := gF w6 w.heap.size 0 [.int .i64 (sn (mkQ neg (dv f) 1)), .slice A1 n1 c1, .slice A2 n2 c2]) ⟨fun k hk => iL hk, jH, _, _, hR6, by decide, iJ⟩;have hq9 := kR (i := 0) (l := [.int .i64 (sn (mkQ neg (dv f) 1)), .slice A1 n1 c1, .slice A2 n2 c2]) hG6 (Nat.le_refl _);simp only [gF, Nat.reduceAdd] at hb9 hv9 hq9;have z0 := hb9.cell 0 rfl;have z1 := hb9.cell 1 rfl;have z2 := hb9.cell 2 rfl;refine bodyPost_ret (v := .tuple #[.agg #[.int .i64 (sn (mkQ neg (dv f) 1)), .slice A1 n1 c1, .slice A2 n2 c2], .int .i64 0]) (by simp [results, Tryz.results17, go_sem, z0, z1, z2]) rfl ?_;rw [HP.out, (tO HRW.out HZ2.out Hl1.out Hl2.out : aL _ _ _ _ = (0, _))];exact ⟨_, rfl, hv9, hq9⟩
  ·go_wp2_with fail
   refine (aAZ fb _ HSZ.out.2).mono ?_;rintro e w4 ⟨rfl, hq4⟩;have hG4 := hG3.trans hq4; have hR4 := hR3.q hq4;clear hG3 hR3 hq4;rw [HFB.out];by_cases hd2 : nV b = true
   ·rw [hd2];have HDB := Lib.hid hd2; clear hd2;by_cases hl1 : 1 < fa.size
    ·have h1 : (1 : Int) < (fa.size : Int) := (by omega);have hp0 : 0 < fa.size := (by omega);have hcc := uS HFA.out hp0;generalize hca : fa[0]'hp0 = ca at *
     by_cases hc1 : ca = 48
     ·subst hc1;have HH := Lib.hid (aBP (by rw [← LA.out]; exact hl1) hcc); clear hcc hl1;have fz := hR4.frozen;have r0 := hR4.cell 0 rfl;have r1 := hR4.cell 1 rfl;have r2 := hR4.cell 2 rfl;go_wp2_with fail
      obtain ⟨hb9, hq9⟩ := dX hR4 rfl hG4 (Nat.le_refl _);have z0 := hb9.cell 0 rfl;have z1 := hb9.cell 1 rfl;have z2 := hb9.cell 2 rfl;refine bodyPost_ret (v := .tuple #[.agg #[.int .i64 0, .slice none 0 0, .slice none 0 0], .int .i64 6]) (by simp [results, Tryz.results17, go_sem, z0, z1, z2]) rfl ?_;rw [HP.out, (aA0 HH.out : aL _ _ _ _ = (6, 0))];exact ⟨_, rfl, Rq.none _, hq9⟩
     ·have hn1 : ¬ (ca.toNat : Int) = 48 := fun h => hc1 (UInt8.toNat_inj.1 (by have : (48 : UInt8).toNat = 48 := rfl; omega));have hn1b : ((ca.toNat : Int) == 48) = false := beq_eq_false_iff_ne.2 hn1;have HRW : Hid (Row f) := Lib.hid (nC HDF.out (.inr (by rw [hcc]; exact fun h => hc1 (Option.some.inj h))));clear hcc hc1;have hpb : 0 < fb.size := by rw [LB.out]; have := (rT.1 HDB.out).2; rcases b with _ | ⟨x, y⟩ <;> simp at *
      have hbb := uS HFB.out hpb;generalize hcb : fb[0]'hpb = cb at *
      by_cases hc2 : cb = 48
      ·subst hc2;have HH := Lib.hid (zA hbb); clear hbb;have fz := hR4.frozen;have r0 := hR4.cell 0 rfl;have r1 := hR4.cell 1 rfl;have r2 := hR4.cell 2 rfl;go_wp2_with fail
       obtain ⟨hb9, hq9⟩ := dX hR4 rfl hG4 (Nat.le_refl _);have z0 := hb9.cell 0 rfl;have z1 := hb9.cell 1 rfl;have z2 := hb9.cell 2 rfl;refine bodyPost_ret (v := .tuple #[.agg #[.int .i64 0, .slice none 0 0, .slice none 0 0], .int .i64 6]) (by simp [results, Tryz.results17, go_sem, z0, z1, z2]) rfl ?_;rw [HP.out, (qC HH.out : aL _ _ _ _ = (6, 0))];exact ⟨_, rfl, Rq.none _, hq9⟩
      ·have hn2 : ¬ (cb.toNat : Int) = 48 := fun h => hc2 (UInt8.toNat_inj.1 (by have : (48 : UInt8).toNat = 48 := rfl; omega));have hn2b : ((cb.toNat : Int) == 48) = false := beq_eq_false_iff_ne.2 hn2;have HBH : Hid (b.head? ≠ some 48) := Lib.hid (by rw [hbb]; exact fun h => hc2 (Option.some.inj h));have HRB : Hid (Row b) := Lib.hid (nC HDB.out (.inr HBH.out));clear hbb hc2;have hz : ¬ f = [48] := fun h => (by have h9 := LA.out; rw [h] at h9; simp at h9; omega);have t0 : (fa.toList == [48]) = false := (by rw [TA.out]; exact beq_eq_false_iff_ne.2 hz);have HZ := Lib.hid hz; clear hz;by_cases h9 : b = [49]
       ·have t1 : (fb.toList == [49]) = true := (by rw [TB.out, h9]; rfl);have H9 := Lib.hid h9; clear h9;have fz := hR4.frozen;have r0 := hR4.cell 0 rfl;have r1 := hR4.cell 1 rfl;have r2 := hR4.cell 2 rfl;go_wp2_with fail
        obtain ⟨hb9, hq9⟩ := dX hR4 rfl hG4 (Nat.le_refl _);have z0 := hb9.cell 0 rfl;have z1 := hb9.cell 1 rfl;have z2 := hb9.cell 2 rfl;refine bodyPost_ret (v := .tuple #[.agg #[.int .i64 0, .slice none 0 0, .slice none 0 0], .int .i64 6]) (by simp [results, Tryz.results17, go_sem, z0, z1, z2]) rfl ?_;rw [HP.out, (qC (.inr (.inr H9.out)) : aL _ _ _ _ = (6, 0))];exact ⟨_, rfl, Rq.none _, hq9⟩
       ·have t1 : (fb.toList == [49]) = false := (by rw [TB.out]; exact beq_eq_false_iff_ne.2 h9);have HOK : Hid (¬ (¬ Row b ∨ b = [48] ∨ b = [49])) := Lib.hid (by rintro (h | h | h); exact h HRB.out; (rw [h] at HBH; exact HBH.out rfl); exact h9 h);clear h9;by_cases hl1 : 1000 < f.length
        ·have hl2 : (1000 : Int) < (fa.size : Int) := (by rw [LA.out]; omega);have Hl1 := Lib.hid hl1; clear hl1;have fz := hR4.frozen;have r0 := hR4.cell 0 rfl;have r1 := hR4.cell 1 rfl;have r2 := hR4.cell 2 rfl;go_wp2_with fail
         obtain ⟨hb9, hq9⟩ := dX hR4 rfl hG4 (Nat.le_refl _);have z0 := hb9.cell 0 rfl;have z1 := hb9.cell 1 rfl;have z2 := hb9.cell 2 rfl;refine bodyPost_ret (v := .tuple #[.agg #[.int .i64 0, .slice none 0 0, .slice none 0 0], .int .i64 3]) (by simp [results, Tryz.results17, go_sem, z0, z1, z2]) rfl ?_;rw [HP.out, (kP (.inl Hl1.out) HRW.out (fun h => HZ.out h.1) (fun _ => HOK.out) : aL _ _ _ _ = (3, 0))];exact ⟨_, rfl, Rq.none _, hq9⟩
        ·have hl2 : ¬ (1000 : Int) < (fa.size : Int) := (by rw [LA.out]; omega);have Hl1 := Lib.hid hl1; clear hl1;by_cases hl2 : 1000 < b.length
         ·have hl3 : (1000 : Int) < (fb.size : Int) := (by rw [LB.out]; omega);have Hl2 := Lib.hid hl2; clear hl2;have fz := hR4.frozen;have r0 := hR4.cell 0 rfl;have r1 := hR4.cell 1 rfl;have r2 := hR4.cell 2 rfl;go_wp2_with fail
          obtain ⟨hb9, hq9⟩ := dX hR4 rfl hG4 (Nat.le_refl _);have z0 := hb9.cell 0 rfl;have z1 := hb9.cell 1 rfl;have z2 := hb9.cell 2 rfl;refine bodyPost_ret (v := .tuple #[.agg #[.int .i64 0, .slice none 0 0, .slice none 0 0], .int .i64 3]) (by simp [results, Tryz.results17, go_sem, z0, z1, z2]) rfl ?_;rw [HP.out, (kP (.inr Hl2.out) HRW.out (fun h => HZ.out h.1) (fun _ => HOK.out) : aL _ _ _ _ = (3, 0))];exact ⟨_, rfl, Rq.none _, hq9⟩
         ·have hl3 : ¬ (1000 : Int) < (fb.size : Int) := (by rw [LB.out]; omega);have Hl2 := Lib.hid hl2; clear hl2;go_wp2_with fail
          refine (jL fa _ (by rw [HFA.out]; exact HRW.out.1) (by have h8 := Hl1.out; have h9 := LA.out; rw [aA]; omega)).mono ?_;rintro e w5 ⟨va, rfl, hva, hq5, -⟩;have hG5 := hG4.trans hq5; have hR5 := hR4.q hq5;rw [HFA.out] at hva;go_wp2_with fail
          refine (jL fb _ (by rw [HFB.out]; exact HRB.out.1) (by have h8 := Hl2.out; have h9 := LB.out; rw [aA]; omega)).mono ?_;rintro e w6 ⟨vb, rfl, hvb, hq6, -⟩;have hG6 := hG5.trans hq6; have hR6 := hR5.q hq6;rw [HFB.out] at hvb;have hva2 := hva.q hq6;go_wp2_with fail
          refine (tT _ _ (dv f) (dv b) _ hva2 hvb (qF HRB.out (fun h => HOK.out (.inr (.inl h)))) (rU HRW.out.1 Hl1.out) (rU HRB.out.1 Hl2.out)).mono ?_;rintro e w7 ⟨vd, rfl, hvd, hq7⟩;have hG7 := hG6.trans hq7; have hR7 := hR6.q hq7;have hva3 := hva2.q hq7; have hvb3 := hvb.q hq7;by_cases hg : Nat.gcd (dv f) (dv b) = 1
          ·have d1 : decide (Nat.gcd (dv f) (dv b) = 1) = true := decide_eq_true hg;have HGC := Lib.hid hg; clear hg;go_wp2_with fail
           refine (iU _ (Nat.gcd (dv f) (dv b)) true _ hvd d1).mono ?_;rintro e w9 ⟨rfl, rfl⟩;obtain ⟨A1, n1, c1, rfl⟩ := Nr.form hva3;obtain ⟨A2, n2, c2, rfl⟩ := Nr.form hvb3;have fz := hR7.frozen;have r0 := hR7.cell 0 rfl;have r1 := hR7.cell 1 rfl;have r2 := hR7.cell 2 rfl;go_wp2_with fail
           obtain ⟨e1, e2, e3⟩ := aBQ HSG.out (qF HRW.out HZ.out) (qF HRB.out (fun h => HOK.out (.inr (.inl h)))) HGC.out;obtain ⟨hb9, hv9, hq9⟩ := lG hR7 rfl iJ hva3 hvb3 e1 e2 e3 hG7 (Nat.le_refl _);have z0 := hb9.cell 0 rfl;have z1 := hb9.cell 1 rfl;have z2 := hb9.cell 2 rfl;refine bodyPost_ret (v := .tuple #[.agg #[.int .i64 sg, .slice A1 n1 c1, .slice A2 n2 c2], .int .i64 0]) (by simp [results, Tryz.results17, go_sem, z0, z1, z2]) rfl ?_;rw [HP.out, (yD HRW.out (fun h => HZ.out h.1) HOK.out Hl1.out Hl2.out HGC.out : aL _ _ _ _ = (0, _))];exact ⟨_, rfl, hv9, hq9⟩
          ·have d1 : decide (Nat.gcd (dv f) (dv b) = 1) = false := decide_eq_false hg;have HGC := Lib.hid hg; clear hg;go_wp2_with fail
           refine (iU _ (Nat.gcd (dv f) (dv b)) false _ hvd d1).mono ?_;rintro e w9 ⟨rfl, rfl⟩;have fz := hR7.frozen;have r0 := hR7.cell 0 rfl;have r1 := hR7.cell 1 rfl;have r2 := hR7.cell 2 rfl;go_wp2_with fail
           obtain ⟨hb9, hq9⟩ := dX hR7 rfl hG7 (Nat.le_refl _);have z0 := hb9.cell 0 rfl;have z1 := hb9.cell 1 rfl;have z2 := hb9.cell 2 rfl;refine bodyPost_ret (v := .tuple #[.agg #[.int .i64 0, .slice none 0 0, .slice none 0 0], .int .i64 6]) (by simp [results, Tryz.results17, go_sem, z0, z1, z2]) rfl ?_;rw [HP.out, (aAT HRW.out (fun h => HZ.out h.1) HOK.out Hl1.out Hl2.out HGC.out : aL _ _ _ _ = (6, 0))];exact ⟨_, rfl, Rq.none _, hq9⟩
    ·have h1 : ¬ (1 : Int) < (fa.size : Int) := (by omega);have HRW : Hid (Row f) := Lib.hid (nC HDF.out (.inl (by rw [← LA.out]; exact hl1)));have hsm : fa.size ≤ 1 := (by omega);clear hl1;have hpb : 0 < fb.size := by rw [LB.out]; have := (rT.1 HDB.out).2; rcases b with _ | ⟨x, y⟩ <;> simp at *
     have hbb := uS HFB.out hpb;generalize hcb : fb[0]'hpb = cb at *
     by_cases hc2 : cb = 48
     ·subst hc2;have HH := Lib.hid (zA hbb); clear hbb;have fz := hR4.frozen;have r0 := hR4.cell 0 rfl;have r1 := hR4.cell 1 rfl;have r2 := hR4.cell 2 rfl;go_wp2_with fail
      obtain ⟨hb9, hq9⟩ := dX hR4 rfl hG4 (Nat.le_refl _);have z0 := hb9.cell 0 rfl;have z1 := hb9.cell 1 rfl;have z2 := hb9.cell 2 rfl;refine bodyPost_ret (v := .tuple #[.agg #[.int .i64 0, .slice none 0 0, .slice none 0 0], .int .i64 6]) (by simp [results, Tryz.results17, go_sem, z0, z1, z2]) rfl ?_;rw [HP.out, (qC HH.out : aL _ _ _ _ = (6, 0))];exact ⟨_, rfl, Rq.none _, hq9⟩
     ·have hn2 : ¬ (cb.toNat : Int) = 48 := fun h => hc2 (UInt8.toNat_inj.1 (by have : (48 : UInt8).toNat = 48 := rfl; omega));have hn2b : ((cb.toNat : Int) == 48) = false := beq_eq_false_iff_ne.2 hn2;have HBH : Hid (b.head? ≠ some 48) := Lib.hid (by rw [hbb]; exact fun h => hc2 (Option.some.inj h));have HRB : Hid (Row b) := Lib.hid (nC HDB.out (.inr HBH.out));clear hbb hc2;by_cases hz : f = [48]
      ·have t0 : (fa.toList == [48]) = true := (by rw [TA.out, hz]; rfl);have HZ := Lib.hid hz; clear hz;cases neg
       ·have hs9 : ¬ sg < 0 := (by have h9 := HSG.out; simp at h9; omega);have fz := hR4.frozen;have r0 := hR4.cell 0 rfl;have r1 := hR4.cell 1 rfl;have r2 := hR4.cell 2 rfl;go_wp2_with fail
        obtain ⟨hb9, hq9⟩ := dX hR4 rfl hG4 (Nat.le_refl _);have z0 := hb9.cell 0 rfl;have z1 := hb9.cell 1 rfl;have z2 := hb9.cell 2 rfl;refine bodyPost_ret (v := .tuple #[.agg #[.int .i64 0, .slice none 0 0, .slice none 0 0], .int .i64 6]) (by simp [results, Tryz.results17, go_sem, z0, z1, z2]) rfl ?_;rw [HP.out, (pX HRW.out HZ.out (.inr rfl) : aL _ _ _ _ = (6, 0))];exact ⟨_, rfl, Rq.none _, hq9⟩
       ·have hs9 : sg < 0 := (by have h9 := HSG.out; simp at h9; omega);have fz := hR4.frozen;have r0 := hR4.cell 0 rfl;have r1 := hR4.cell 1 rfl;have r2 := hR4.cell 2 rfl;go_wp2_with fail
        obtain ⟨hb9, hq9⟩ := dX hR4 rfl hG4 (Nat.le_refl _);have z0 := hb9.cell 0 rfl;have z1 := hb9.cell 1 rfl;have z2 := hb9.cell 2 rfl;refine bodyPost_ret (v := .tuple #[.agg #[.int .i64 0, .slice none 0 0, .slice none 0 0], .int .i64 6]) (by simp [results, Tryz.results17, go_sem, z0, z1, z2]) rfl ?_;rw [HP.out, (pX HRW.out HZ.out (.inl rfl) : aL _ _ _ _ = (6, 0))];exact ⟨_, rfl, Rq.none _, hq9⟩
      ·have t0 : (fa.toList == [48]) = false := (by rw [TA.out]; exact beq_eq_false_iff_ne.2 hz);have HZ := Lib.hid hz; clear hz;by_cases h9 : b = [49]
       ·have t1 : (fb.toList == [49]) = true := (by rw [TB.out, h9]; rfl);have H9 := Lib.hid h9; clear h9;have fz := hR4.frozen;have r0 := hR4.cell 0 rfl;have r1 := hR4.cell 1 rfl;have r2 := hR4.cell 2 rfl;go_wp2_with fail
        obtain ⟨hb9, hq9⟩ := dX hR4 rfl hG4 (Nat.le_refl _);have z0 := hb9.cell 0 rfl;have z1 := hb9.cell 1 rfl;have z2 := hb9.cell 2 rfl;refine bodyPost_ret (v := .tuple #[.agg #[.int .i64 0, .slice none 0 0, .slice none 0 0], .int .i64 6]) (by simp [results, Tryz.results17, go_sem, z0, z1, z2]) rfl ?_;rw [HP.out, (qC (.inr (.inr H9.out)) : aL _ _ _ _ = (6, 0))];exact ⟨_, rfl, Rq.none _, hq9⟩
       ·have t1 : (fb.toList == [49]) = false := (by rw [TB.out]; exact beq_eq_false_iff_ne.2 h9);have HOK : Hid (¬ (¬ Row b ∨ b = [48] ∨ b = [49])) := Lib.hid (by rintro (h | h | h); exact h HRB.out; (rw [h] at HBH; exact HBH.out rfl); exact h9 h);clear h9;have hl1 : ¬ 1000 < f.length := (by have h9 := LA.out; omega);have hl2 : ¬ (1000 : Int) < (fa.size : Int) := (by rw [LA.out]; omega);have Hl1 := Lib.hid hl1; clear hl1;by_cases hl2 : 1000 < b.length
        ·have hl3 : (1000 : Int) < (fb.size : Int) := (by rw [LB.out]; omega);have Hl2 := Lib.hid hl2; clear hl2;have fz := hR4.frozen;have r0 := hR4.cell 0 rfl;have r1 := hR4.cell 1 rfl;have r2 := hR4.cell 2 rfl;go_wp2_with fail
         obtain ⟨hb9, hq9⟩ := dX hR4 rfl hG4 (Nat.le_refl _);have z0 := hb9.cell 0 rfl;have z1 := hb9.cell 1 rfl;have z2 := hb9.cell 2 rfl;refine bodyPost_ret (v := .tuple #[.agg #[.int .i64 0, .slice none 0 0, .slice none 0 0], .int .i64 3]) (by simp [results, Tryz.results17, go_sem, z0, z1, z2]) rfl ?_;rw [HP.out, (kP (.inr Hl2.out) HRW.out (fun h => HZ.out h.1) (fun _ => HOK.out) : aL _ _ _ _ = (3, 0))];exact ⟨_, rfl, Rq.none _, hq9⟩
        ·have hl3 : ¬ (1000 : Int) < (fb.size : Int) := (by rw [LB.out]; omega);have Hl2 := Lib.hid hl2; clear hl2;go_wp2_with fail
         refine (jL fa _ (by rw [HFA.out]; exact HRW.out.1) (by have h8 := Hl1.out; have h9 := LA.out; rw [aA]; omega)).mono ?_;rintro e w5 ⟨va, rfl, hva, hq5, -⟩;have hG5 := hG4.trans hq5; have hR5 := hR4.q hq5;rw [HFA.out] at hva;go_wp2_with fail
         refine (jL fb _ (by rw [HFB.out]; exact HRB.out.1) (by have h8 := Hl2.out; have h9 := LB.out; rw [aA]; omega)).mono ?_;rintro e w6 ⟨vb, rfl, hvb, hq6, -⟩;have hG6 := hG5.trans hq6; have hR6 := hR5.q hq6;rw [HFB.out] at hvb;have hva2 := hva.q hq6;go_wp2_with fail
         refine (tT _ _ (dv f) (dv b) _ hva2 hvb (qF HRB.out (fun h => HOK.out (.inr (.inl h)))) (rU HRW.out.1 Hl1.out) (rU HRB.out.1 Hl2.out)).mono ?_;rintro e w7 ⟨vd, rfl, hvd, hq7⟩;have hG7 := hG6.trans hq7; have hR7 := hR6.q hq7;have hva3 := hva2.q hq7; have hvb3 := hvb.q hq7;by_cases hg : Nat.gcd (dv f) (dv b) = 1
         ·have d1 : decide (Nat.gcd (dv f) (dv b) = 1) = true := decide_eq_true hg;have HGC := Lib.hid hg; clear hg;go_wp2_with fail
          refine (iU _ (Nat.gcd (dv f) (dv b)) true _ hvd d1).mono ?_;rintro e w9 ⟨rfl, rfl⟩;obtain ⟨A1, n1, c1, rfl⟩ := Nr.form hva3;obtain ⟨A2, n2, c2, rfl⟩ := Nr.form hvb3;have fz := hR7.frozen;have r0 := hR7.cell 0 rfl;have r1 := hR7.cell 1 rfl;have r2 := hR7.cell 2 rfl;go_wp2_with fail
          obtain ⟨e1, e2, e3⟩ := aBQ HSG.out (qF HRW.out HZ.out) (qF HRB.out (fun h => HOK.out (.inr (.inl h)))) HGC.out;obtain ⟨hb9, hv9, hq9⟩ := lG hR7 rfl iJ hva3 hvb3 e1 e2 e3 hG7 (Nat.le_refl _);have z0 := hb9.cell 0 rfl;have z1 := hb9.cell 1 rfl;have z2 := hb9.cell 2 rfl;refine bodyPost_ret (v := .tuple #[.agg #[.int .i64 sg, .slice A1 n1 c1, .slice A2 n2 c2], .int .i64 0]) (by simp [results, Tryz.results17, go_sem, z0, z1, z2]) rfl ?_;rw [HP.out, (yD HRW.out (fun h => HZ.out h.1) HOK.out Hl1.out Hl2.out HGC.out : aL _ _ _ _ = (0, _))];exact ⟨_, rfl, hv9, hq9⟩
         ·have d1 : decide (Nat.gcd (dv f) (dv b) = 1) = false := decide_eq_false hg;have HGC := Lib.hid hg; clear hg;go_wp2_with fail
          refine (iU _ (Nat.gcd (dv f) (dv b)) false _ hvd d1).mono ?_;rintro e w9 ⟨rfl, rfl⟩;have fz := hR7.frozen;have r0 := hR7.cell 0 rfl;have r1 := hR7.cell 1 rfl;have r2 := hR7.cell 2 rfl;go_wp2_with fail
          obtain ⟨hb9, hq9⟩ := dX hR7 rfl hG7 (Nat.le_refl _);have z0 := hb9.cell 0 rfl;have z1 := hb9.cell 1 rfl;have z2 := hb9.cell 2 rfl;refine bodyPost_ret (v := .tuple #[.agg #[.int .i64 0, .slice none 0 0, .slice none 0 0], .int .i64 6]) (by simp [results, Tryz.results17, go_sem, z0, z1, z2]) rfl ?_;rw [HP.out, (aAT HRW.out (fun h => HZ.out h.1) HOK.out Hl1.out Hl2.out HGC.out : aL _ _ _ _ = (6, 0))];exact ⟨_, rfl, Rq.none _, hq9⟩
   ·rw [Bool.not_eq_true] at hd2;rw [hd2];have HD2 := Lib.hid hd2; clear hd2;have fz := hR4.frozen;have r0 := hR4.cell 0 rfl;have r1 := hR4.cell 1 rfl;have r2 := hR4.cell 2 rfl;go_wp2_with fail
    obtain ⟨hb9, hq9⟩ := dX hR4 rfl hG4 (Nat.le_refl _);have z0 := hb9.cell 0 rfl;have z1 := hb9.cell 1 rfl;have z2 := hb9.cell 2 rfl;refine bodyPost_ret (v := .tuple #[.agg #[.int .i64 0, .slice none 0 0, .slice none 0 0], .int .i64 6]) (by simp [results, Tryz.results17, go_sem, z0, z1, z2]) rfl ?_;rw [HP.out, (qC (.inl (aDJ HD2.out)) : aL _ _ _ _ = (6, 0))];exact ⟨_, rfl, Rq.none _, hq9⟩
 ·rw [Bool.not_eq_true] at hd;rw [hd];have HD := Lib.hid hd; clear hd;have fz := hR3.frozen;have r0 := hR3.cell 0 rfl;have r1 := hR3.cell 1 rfl;have r2 := hR3.cell 2 rfl;go_wp2_with fail
  obtain ⟨hb9, hq9⟩ := dX hR3 rfl hG3 (Nat.le_refl _);have z0 := hb9.cell 0 rfl;have z1 := hb9.cell 1 rfl;have z2 := hb9.cell 2 rfl;refine bodyPost_ret (v := .tuple #[.agg #[.int .i64 0, .slice none 0 0, .slice none 0 0], .int .i64 6]) (by simp [results, Tryz.results17, go_sem, z0, z1, z2]) rfl ?_;rw [HP.out, (aA0 (aDJ HD.out) : aL _ _ _ _ = (6, 0))];exact ⟨_, rfl, Rq.none _, hq9⟩
end Go.Proofs.YtgokbhikgdhmpaaGreatDoor.K
