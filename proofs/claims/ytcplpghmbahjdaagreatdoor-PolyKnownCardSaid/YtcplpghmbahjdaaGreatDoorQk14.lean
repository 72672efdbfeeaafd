/- The examples of the document about polynomials. No condition. Part of the proof: texts Vf4 Vf5 Ey1 Ex2 Ed1 Ex3 Ex4 Ex5 Ed2. -/
import Derived.Deep.MidRow
import Derived.Laws.CopyOwn
import Derived.Laws.MakeOwn
import Derived.Test.YtcplpghmbahjdaaGreatDoorQk03
import Derived.Test.YtcplpghmbahjdaaGreatDoorQk04
import Derived.Test.YtcplpghmbahjdaaGreatDoorQk13
set_option maxHeartbeats 4000000
namespace Go.Proofs.YtcplpghmbahjdaaGreatDoor
open Go.RowKit
open Ma Me
def eX (k : Nat) : ByteArray := ⟨(letter k).toArray⟩
def dV (k : Nat) : Int := 3 * (k : Int) - 15
def aKk (k : Nat) : Value := .agg #[.string (eX k), .int .i64 (dV k)]
def iL : Array Value := #[.string (eX 0), .int .i64 (dV 0), .string (eX 1), .int .i64 (dV 1), .string (eX 2), .int .i64 (dV 2), .string (eX 3), .int .i64 (dV 3), .string (eX 4), .int .i64 (dV 4),
 .string (eX 5), .int .i64 (dV 5), .string (eX 6), .int .i64 (dV 6), .string (eX 7), .int .i64 (dV 7), .string (eX 8), .int .i64 (dV 8), .string (eX 9), .int .i64 (dV 9)]
def Px (w : World) : Prop := ∃ t fr, w.heap[(4 : Nat)]? = some (.cells iL t fr)
theorem Px.q {w w' : World} (h : Px w) (hq : Q w w') : Px w' := by
 obtain ⟨t, fr, h⟩ := h;have hlt : (4 : Nat) < w.heap.size := by
  rcases Nat.lt_or_ge (4 : Nat) w.heap.size with hlt | hge
  ·exact hlt
  ·rw [Array.getElem?_eq_none hge] at h; cases h
 exact ⟨t, fr, (hq.heap hlt).trans h⟩
theorem aHG : (Tryz.prog.info? 237).map (·.size) = some iL.size := by kernel_rfl
theorem aAT (k : Nat) (hk : k < 10) (w : World) : (Instr.index 237 (.agg iL) (.int .i64 (k : Int))).run Tryz.prog w = .ok (aKk k) w := by
 rcases (by omega : k = 0 ∨ k = 1 ∨ k = 2 ∨ k = 3 ∨ k = 4 ∨ k = 5 ∨ k = 6 ∨ k = 7 ∨ k = 8 ∨ k = 9) with h | h | h | h | h | h | h | h | h | h
 ·rw [h]; kernel_rfl
 ·rw [h]; kernel_rfl
 ·rw [h]; kernel_rfl
 ·rw [h]; kernel_rfl
 ·rw [h]; kernel_rfl
 ·rw [h]; kernel_rfl
 ·rw [h]; kernel_rfl
 ·rw [h]; kernel_rfl
 ·rw [h]; kernel_rfl
 ·rw [h]; kernel_rfl
theorem aEo {a : Value} {x y : Int} (h : x = y) : Ending.returned (.tuple #[a, .int .i64 x]) = .returned (.tuple #[a, .int .i64 y]) := by rw [h]
def Sf (l : List UInt8) (j : Nat) : Prop := j ≠ 5 ∧ Lib.hasSuffix l (letter j) = true
theorem aBY (l : List UInt8) (c : UInt8) : Lib.hasSuffix l [c] = true ↔ l.getLast? = some c := by
 unfold Lib.hasSuffix;rw [List.isSuffixOf_iff_suffix];constructor
 ·rintro ⟨t, rfl⟩; simp
 ·intro h;obtain ⟨t, ht⟩ := List.getLast?_eq_some_iff.1 h;exact ⟨t, ht.symm⟩
theorem aFT {l : List UInt8} {c : UInt8} (h : Lib.hasSuffix l [c] = true) : Lib.trimSuffix l [c] = l.dropLast := by
 unfold Lib.trimSuffix;rw [if_pos h, List.dropLast_eq_take];rfl
theorem aC2 {c : UInt8} {p : Int} (h : pfx c = some p) : ∃ k, k < 10 ∧ k ≠ 5 ∧ letter k = [c] ∧ p = dV k := by
 unfold pfx at h;split at h
 ·cases h; rename_i e; subst e; exact ⟨0, by decide, by decide, rfl, rfl⟩
 split at h
 ·cases h; rename_i e; subst e; exact ⟨1, by decide, by decide, rfl, rfl⟩
 split at h
 ·cases h; rename_i e; subst e; exact ⟨2, by decide, by decide, rfl, rfl⟩
 split at h
 ·cases h; rename_i e; subst e; exact ⟨3, by decide, by decide, rfl, rfl⟩
 split at h
 ·cases h; rename_i e; subst e; exact ⟨4, by decide, by decide, rfl, rfl⟩
 split at h
 ·cases h; rename_i e; subst e; exact ⟨6, by decide, by decide, rfl, rfl⟩
 split at h
 ·cases h; rename_i e; subst e; exact ⟨7, by decide, by decide, rfl, rfl⟩
 split at h
 ·cases h; rename_i e; subst e; exact ⟨8, by decide, by decide, rfl, rfl⟩
 split at h
 ·cases h; rename_i e; subst e; exact ⟨9, by decide, by decide, rfl, rfl⟩
 ·cases h
theorem aEp {l : List UInt8} (h : ∀ j, j < 10 → ¬ Sf l j) : iQ l = (l, 0) := by
 unfold iQ;cases hl : l.getLast? with
 | none => rfl
 | some c =>
   cases hp : pfx c with
   | none => simp only [hp]
   | some p =>
     obtain ⟨k, hk, h5, hc, -⟩ := aC2 hp;exact absurd ⟨h5, by rw [hc]; exact (aBY l c).2 hl⟩ (h k hk)
theorem vS {k : Nat} (hk : k < 10) (h5 : k ≠ 5) : ∃ c, letter k = [c] ∧ pfx c = some (dV k) := by
 rcases (by omega : k = 0 ∨ k = 1 ∨ k = 2 ∨ k = 3 ∨ k = 4 ∨ k = 6 ∨ k = 7 ∨ k = 8 ∨ k = 9) with rfl | rfl | rfl | rfl | rfl | rfl | rfl | rfl | rfl
 ·exact ⟨102, rfl, rfl⟩
 ·exact ⟨112, rfl, rfl⟩
 ·exact ⟨110, rfl, rfl⟩
 ·exact ⟨117, rfl, rfl⟩
 ·exact ⟨109, rfl, rfl⟩
 ·exact ⟨107, rfl, rfl⟩
 ·exact ⟨77, rfl, rfl⟩
 ·exact ⟨71, rfl, rfl⟩
 ·exact ⟨84, rfl, rfl⟩
theorem aEq {l : List UInt8} {k : Nat} (hk : k < 10) (h : Sf l k) : iQ l = (Lib.trimSuffix l (letter k), dV k) := by
 obtain ⟨c, hc, hp⟩ := vS hk h.1;have h2 := h.2;rw [hc] at h2 ⊢;rw [aFT h2];unfold iQ;rw [(aBY l c).1 h2];simp only [hp]
theorem aBZ {k : Nat} (hk : k < 10) (h5 : k ≠ 5) : ((eX k).toList == []) = false := by
 obtain ⟨c, hc, -⟩ := vS hk h5;rw [ByteArray.toList_eq];have : (eX k).data.toList = [c] := hc;rw [this]; rfl
def aHH (l : List UInt8) (w : World) (e : Ending) (w' : World) : Prop := ∃ a : ByteArray, e = .returned (.tuple #[.string a, .int .i64 (iQ l).2]) ∧ a.data.toList = (iQ l).1 ∧ Q w w'
set_option maxRecDepth 100000 in
theorem aBE (s : ByteArray) (w : World) (hp : Px w) (hs : s.size ≤ 9223372036854775806) : Calls Tryz.prog 228 #[.string s] w (aHH s.data.toList w) := by
 obtain ⟨t, fr, hp⟩ := hp;go_enter Tryz.func228, Tryz.ntmps228
 go_wp2_with (refine wpList_load_row rfl 237 (.global 4) rfl 4 rfl t iL fr _ hp Tryz.underlying237 rfl aHG ?_)
 clear hp;go_loopw [9] (fun i wr => ∃ k : Nat, k ≤ 10 ∧ i = .int .i64 (k : Int) ∧ (∀ j, j < k → ¬ Sf s.data.toList j) ∧ Q w wr) (fun i _ => 10 - (intOf i).toNat)
 case atStart => exact ⟨0, Nat.zero_le _, rfl, fun j hj => absurd hj (Nat.not_lt_zero j), Q.refl _⟩
 case round =>
  obtain ⟨k, hk, rfl, hno, hq⟩ := hrel;by_cases hlt : k < 10
  ·have hix := aAT k hlt;obtain ⟨pl, hpl⟩ : ∃ pl, eX k = pl := ⟨_, rfl⟩
   obtain ⟨pp, hpp⟩ : ∃ pp, dV k = pp := ⟨_, rfl⟩
   have hix2 : ∀ w, (Instr.index 237 (.agg iL) (.int .i64 (k : Int))).run Tryz.prog w = .ok (.agg #[.string pl, .int .i64 pp]) w := fun w => by
    rw [aAT k hlt w, ← hpl, ← hpp]; rfl
   have HNO := Lib.hid hno;have HPL := Lib.hid hpl; have HPP := Lib.hid hpp;clear hix hno hpl hpp;have hqq := hq.alloc (.cells #[.string pl, .int .i64 pp] 236);go_wp2_with fail
   refine (Tryz.strings_CutSuffix s pl _ (by omega)).mono ?_;rintro e w1 ⟨rfl, rfl⟩;have hrel : Lib.hasSuffix s.data.toList pl.data.toList = Lib.hasSuffix s.data.toList (letter k) := (by rw [← HPL.out]; rfl);have hrel2 : Lib.trimSuffix s.data.toList pl.data.toList = Lib.trimSuffix s.data.toList (letter k) := (by rw [← HPL.out]; rfl);rw [hrel, hrel2];clear hrel hrel2;obtain ⟨ta, hta⟩ : ∃ ta : ByteArray, ⟨(Lib.trimSuffix s.data.toList (letter k)).toArray⟩ = ta := ⟨_, rfl⟩
   rw [hta];have HTA := Lib.hid hta; clear hta;by_cases hsf : Lib.hasSuffix s.data.toList (letter k) = true
   ·rw [hsf];by_cases h5 : k = 5
    ·have hpl5 : (pl.toList == []) = true := (by rw [← HPL.out, h5, ByteArray.toList_eq]; rfl);have hpl6 : pl.toList = [] := (by rw [← HPL.out, h5, ByteArray.toList_eq]; rfl);have H5 := Lib.hid h5; have HSF := Lib.hid hsf; clear h5 hsf;go_wp2_with fail
     go_roundw
     case rel => exact ⟨k + 1, by omega, by go_num, by
      intro j hj hS;rcases (by omega : j < k ∨ j = k) with h | h
      ·exact HNO.out j h hS
      ·subst h; exact hS.1 H5.out, hqq⟩
     case measure => simp [intOf]; omega
    ·have hpl5 : (pl.toList == []) = false := (by rw [← HPL.out]; exact aBZ hlt h5);have hpl6 : ¬ pl.toList = [] := (by rw [← HPL.out]; exact ne_of_beq_false (aBZ hlt h5));have hres := aEq hlt (l := s.data.toList) ⟨h5, hsf⟩;have HR := Lib.hid hres; have HSF := Lib.hid hsf; clear hres h5 hsf;go_wp2_with fail
     go_quiet (fail)
     go_wp2_with fail
     go_ret2
     exact ⟨ta, aEo (by rw [HR.out, ← HPP.out]), by rw [HR.out, ← HTA.out], hqq.drewN _⟩
   ·have hsf2 : Lib.hasSuffix s.data.toList (letter k) = false := (by simpa using hsf);rw [hsf2];have HSF := Lib.hid hsf; clear hsf hsf2;go_wp2_with fail
    go_roundw
    case rel => exact ⟨k + 1, by omega, by go_num, by
     intro j hj hS;rcases (by omega : j < k ∨ j = k) with h | h
     ·exact HNO.out j h hS
     ·subst h; exact HSF.out hS.2, hqq⟩
    case measure => simp [intOf]; omega
  ·have hk10 : k = 10 := (by omega);have hres := aEp (l := s.data.toList) (fun j hj => hno j (by omega));have HR := Lib.hid hres; clear hres hno;go_wp2_with fail
   go_ret2
   exact ⟨s, aEo (by rw [HR.out]), by rw [HR.out], hq⟩
theorem vT {neg two : Bool} {f b : List UInt8} {p : Int} (h : ¬ (¬ kF f ∨ (two = true ∧ ¬ kF b))) (hl : 400 < f.length + b.length) : iX neg f b two p = (3, 0) := by
 unfold iX;rw [if_neg h, if_pos hl]
theorem aAU {neg two : Bool} {f b : List UInt8} {p : Int} (h : ¬ (¬ kF f ∨ (two = true ∧ ¬ kF b))) (hl : ¬ 400 < f.length + b.length) : iX neg f b two p = (0, sgQ neg ((dv (f ++ b) : Nat) : Rat) * dG (p - b.length)) := by
 unfold iX;rw [if_neg h, if_neg hl]
theorem aAV (l : List UInt8) : 0 ≤ Lib.indexByte l 47 ↔ 47 ∈ l := by
 have h1 := Lib.indexByte_ge l 47;constructor
 ·intro h;obtain ⟨k, hk⟩ := Int.eq_ofNat_of_zero_le h;exact List.mem_of_getElem? (Lib.indexByte_some hk).1
 ·intro hm;rcases (by omega : Lib.indexByte l 47 = -1 ∨ 0 ≤ Lib.indexByte l 47) with h | h
  ·obtain ⟨j, hj, hj2⟩ := List.getElem_of_mem hm;exact absurd (by rw [List.getElem?_eq_getElem hj, hj2]) (Lib.indexByte_none h j)
  ·exact h
theorem aFU (l : List UInt8) : (iQ l).1.length ≤ l.length := by
 unfold iQ;split
 ·split
  ·show l.dropLast.length ≤ _; rw [List.length_dropLast]; omega
  ·exact Nat.le_refl _
 ·exact Nat.le_refl _
theorem aFV (c : UInt8) (l : List UInt8) : (fU c l).length + (aft c l).length ≤ l.length := by
 rcases aAl c l with ⟨-, h1, h2⟩ | ⟨-, h⟩
 ·rw [h1, h2]; simp
 ·have := congrArg List.length h;rw [List.length_append, List.length_cons] at this;omega
theorem nA (s : Bool) (n : Nat) : (sgQ s ((n : Nat) : Rat)).num = sg s n ∧ (sgQ s ((n : Nat) : Rat)).den = 1 := by
 cases s
 ·exact ⟨Rat.num_natCast _, Rat.den_natCast _⟩
 ·unfold sgQ sg;rw [if_pos rfl, if_pos rfl, Rat.neg_num, Rat.neg_den];exact ⟨by rw [Rat.num_natCast], Rat.den_natCast _⟩
theorem aB0 (s : Bool) (l : List UInt8) (h : bP l) (hl : l.length ≤ 400) : sz (sgQ s ((dv l : Nat) : Rat)) ≤ 401 := by
 have h1 := aIw (dv l);have h2 := aCF h hl;unfold sgQ;split
 ·rw [qV]; omega
 ·omega
set_option maxRecDepth 100000 in
theorem aI2 (s : ByteArray) (w : World) (hT : Tb w) (hPx : Px w) (hs : s.size ≤ 9223372036854775806) : Calls Tryz.prog 219 #[.string s] w fun e w' => ∃ r, e = .returned (.tuple #[r, .int .i64 (sO s.data.toList).1]) ∧ Nq w' r (sO s.data.toList).2 ∧ Q w w' := by
 obtain ⟨w0, hW, hG0, hR0⟩ : ∃ W, w.alloc (.cells #[.bool false, .slice none 0 0, .slice none 0 0] 36) = W ∧ Q w W ∧ Nb W w.heap.size false (.slice none 0 0) (.slice none 0 0) := ⟨_, rfl, (Q.refl _).alloc _, Nb.new w _ _ _⟩
 by_cases h47 : 47 ∈ s.data.toList
 ·have hP : sO s.data.toList = mF s.data.toList := if_pos h47;have HP := Lib.hid hP; clear hP;have hix := (aAV s.data.toList).2 h47;have HIX := Lib.hid hix; clear hix h47;obtain ⟨er, her⟩ : ∃ er, (mF s.data.toList).1 = er := ⟨_, rfl⟩
  have HER := Lib.hid her; clear her;go_enter Tryz.func219, Tryz.ntmps219
  go_wp2_with fail
  clear hW;refine (Tryz.strings_Contains_one s 47 _).mono ?_;rintro e w90 ⟨rfl, rfl⟩;rw [decide_eq_true HIX.out];go_wp2_with fail
  refine (aHF s _ (hT.q hG0) hs).mono ?_;rintro e w1 ⟨r, rfl, hv, hq1⟩;have hG1 := hG0.trans hq1;have hR1 := hR0.q hq1;have fz := hR1.frozen;obtain ⟨r0, r1, r2⟩ := hR1.cells;rw [HER.out];obtain ⟨s6, B1, m1, d1, B2, m2, d2, rfl, -⟩ := hv.form;go_wp2_with fail
  obtain ⟨z0, z1, z2, hvF, hqF⟩ := Nq.store hR1 hv hG1 (Nat.le_refl _);unfold put3 at z0 z1 z2 hvF hqF;refine rt3 (.int .i64 er) z0 z1 z2 ?_;rw [HP.out, HER.out];exact ⟨_, rfl, hvF, hqF⟩
 ·have HIX : Hid (decide (0 ≤ Lib.indexByte s.data.toList 47) = false) := decide_eq_false (fun h => h47 ((aAV s.data.toList).1 h));obtain ⟨neg, hneg⟩ : ∃ neg, kQ s.data.toList = neg := ⟨_, rfl⟩
  obtain ⟨r, hr⟩ : ∃ r, (iQ (unsigned s.data.toList)).1 = r := ⟨_, rfl⟩
  obtain ⟨p, hp⟩ : ∃ p, (iQ (unsigned s.data.toList)).2 = p := ⟨_, rfl⟩
  have hpl := aHk (unsigned s.data.toList);rw [hp] at hpl;obtain ⟨two, htwo⟩ : ∃ two, decide (46 ∈ r) = two := ⟨_, rfl⟩
  obtain ⟨f, hf⟩ : ∃ f, fU 46 r = f := ⟨_, rfl⟩
  obtain ⟨b, hb⟩ : ∃ b, aft 46 r = b := ⟨_, rfl⟩
  have hb2 : two = false → b = [] := fun h => (by rw [← hb]; exact (uF (of_decide_eq_false (htwo.trans h))).2);have hP : sO s.data.toList = iX neg f b two p := (by unfold sO; rw [if_neg h47, hneg, hr, hp, htwo, hf, hb]);have HP := Lib.hid hP; clear hP;have HN := Lib.hid hneg; clear hneg;have HRR := Lib.hid hr; clear hr;have HPP := Lib.hid hp; clear hp;have HT2 := Lib.hid htwo; clear htwo;have HF := Lib.hid hf; clear hf;have HBb := Lib.hid hb; clear hb;have HB2 := Lib.hid hb2; clear hb2;have H47 := Lib.hid h47; clear h47;have hpl1 : -15 ≤ p := (by omega);have hpl2 : p ≤ 15 := (by omega);clear hpl;go_enter Tryz.func219, Tryz.ntmps219
  go_wp2_with fail
  clear hW;refine (Tryz.strings_Contains_one s 47 _).mono ?_;rintro e w90 ⟨rfl, rfl⟩;rw [HIX.out];go_wp2_with fail
  refine (rH s _).mono ?_;rintro e w91 ⟨a, rfl, ha, hsz, rfl⟩;rw [HN.out];have HA := Lib.hid ha; clear ha;go_wp2_with fail
  refine (aBE a _ (hPx.q hG0) (by omega)).mono ?_;rintro e w1 ⟨c, rfl, hc, hq1⟩;have hG1 := hG0.trans hq1;have hR1 := hR0.q hq1;rw [HA.out] at hc ⊢;rw [HPP.out];rw [HRR.out] at hc;have hcs : c.size ≤ 9223372036854775806 := (by have h1 := aFU (unsigned s.data.toList); rw [HRR.out, ← hc, ← HA.out, ← Lib.size_eq, ← Lib.size_eq] at h1; omega);have HC := Lib.hid hc; clear hc;go_wp2_with fail
  refine (aCZ c 46 _ hcs).mono ?_;rintro e w2 ⟨fa, fb, rfl, hfa, hfb, hq2⟩;have hG2 := hG1.trans hq2;have hR2 := hR1.q hq2;rw [HC.out] at hfa hfb ⊢;rw [HT2.out];rw [HF.out] at hfa;rw [HBb.out] at hfb;have la : fa.size = f.length := (by rw [Lib.size_eq, hfa]);have lb : fb.size = b.length := (by rw [Lib.size_eq, hfb]);have lc : fa.size + fb.size ≤ c.size := (by have h1 := aFV 46 r; rw [HF.out, HBb.out] at h1; rw [la, lb, Lib.size_eq, HC.out]; exact h1);have HFA := Lib.hid hfa; have HFB := Lib.hid hfb; have LA := Lib.hid la; have LB := Lib.hid lb; clear hfa hfb la lb;go_wp2_with fail
  refine (kT fa _).mono ?_;rintro e w3 ⟨rfl, hq3⟩;have hG3 := hG2.trans hq3;have hR3 := hR2.q hq3;rw [HFA.out];by_cases hd : kF f
  ·rw [show kS f = true from decide_eq_true hd];cases two
   ·have hok : Hid (¬ (¬ kF f ∨ (false = true ∧ ¬ kF b))) := fun h => h.elim (fun h => h hd) (fun h => by cases h.1);have hAb : bP b := (by rw [HB2.out rfl]; intro c hc; simp at hc);have HAB : Hid (bP (f ++ b)) := fun c hc => (List.mem_append.1 hc).elim (hd.1 c) (hAb c);clear hAb;by_cases hl : 400 < f.length + b.length
    ·have hl2 : (400 : Int) < (fa.size : Int) + (fb.size : Int) := (by rw [LA.out, LB.out]; omega);have HLL := Lib.hid hl; clear hl;have fz := hR3.frozen;obtain ⟨r0, r1, r2⟩ := hR3.cells;go_wp2_with fail
     have hv := bH w3;have hres : iX neg f b false p = ((3 : Int), (0 : Rat)) := vT (by have h := hok.out; simp at h ⊢; exact h) HLL.out;obtain ⟨z0, z1, z2, hvF, hqF⟩ := Nq.store hR3 hv hG3 (Nat.le_refl _);unfold put3 at z0 z1 z2 hvF hqF;refine rt3 (.int .i64 3) z0 z1 z2 ?_;rw [HP.out, hres];exact ⟨_, rfl, hvF, hqF⟩
    ·have hl2 : ¬ (400 : Int) < (fa.size : Int) + (fb.size : Int) := (by rw [LA.out, LB.out]; omega);have hsa : fa.size ≤ 400 := (by rw [LA.out]; omega);have hsb : fb.size ≤ 400 := (by rw [LB.out]; omega);have HLL := Lib.hid hl; clear hl;have hcat : (fa ++ fb).data.toList = f ++ b := (by rw [kN, HFA.out, HFB.out]);have hcs2 : (fa ++ fb).size + 100 ≤ LIM := (by rw [ByteArray.size_append, aB]; omega);have HCAT := Lib.hid hcat; clear hcat;go_wp2_with fail
     refine (gG (fa ++ fb) _ (by rw [HCAT.out]; exact HAB.out) hcs2).mono ?_;rintro e w4 ⟨t1, rfl, ht1, hq4, -⟩;have hG4 := hG3.trans hq4;have hR4 := hR3.q hq4;rw [HCAT.out] at ht1;obtain ⟨A5, n5, c5, rfl⟩ := ht1.form;go_wp2_with fail
     refine (bZ neg _ (dv (f ++ b)) _ ht1).mono ?_;rintro e w5 ⟨v5, rfl, hv5, hq5⟩;have hG5 := hG4.trans hq5;have hR5 := hR4.q hq5;obtain ⟨B1, d1, B2, d2, rfl, -, -⟩ := hv5.form;have hv := Nq.int (q := sgQ neg ((dv (f ++ b) : Nat) : Rat)) hv5 (nA neg _).1 (nA neg _).2;generalize (decide (0 < dv (f ++ b)) && neg) = s4 at *
     generalize dg W64 (dv (f ++ b)) = m1 at *
     generalize dg W64 0 = m2 at *
     have hqd : Q w5 (w5.alloc (.cells #[.bool s4, .slice B1 m1 d1, .slice B2 m2 d2] 36)) := (Q.refl _).alloc _;have hE : Nb (w5.alloc (.cells #[.bool s4, .slice B1 m1 d1, .slice B2 m2 d2] 36)) w5.heap.size s4 (.slice B1 m1 d1) (.slice B2 m2 d2) := Nb.new _ _ _ _;have neE : w5.heap.size ≠ w.heap.size := (by have := hR5.lt; omega);have tw1 : IntKind.i64.wrap (p - (fb.size : Int)) = p - (fb.size : Int) := IntWalk.i64_in _ (by omega);have hz2 := aB0 neg (f ++ b) HAB.out (show (f ++ b).length ≤ 400 by rw [List.length_append]; exact Nat.le_of_not_lt HLL.out);have hz3 := aDX (p - (fb.size : Int));have hB : 16 * (sz (sgQ neg ((dv (f ++ b) : Nat) : Rat)) + sz (dG (p - (fb.size : Int)))) + 100 ≤ LIM := (by rw [aB]; omega);clear hz2 hz3;go_wp2_with fail
     generalize hwd : w5.alloc (.cells #[.bool s4, .slice B1 m1 d1, .slice B2 m2 d2] 36) = w6 at *
     clear hwd;have hG6 := hG5.trans hqd;have hR6 := hR5.q hqd;have hE6 := hE;have hv6 := hv.q hqd;clear hv;obtain ⟨e0, e1, e2⟩ := hE6.cells
     go_region_held3 (fun W => W.cell? ⟨w5.heap.size, 0, none⟩ = some (.bool s4) ∧ W.cell? ⟨w5.heap.size, 1, none⟩ = some (.slice B1 m1 d1) ∧ W.cell? ⟨w5.heap.size, 2, none⟩ = some (.slice B2 m2 d2)) (first | exact ⟨e0, e1, e2⟩ | exact ⟨by assumption, by assumption, by assumption⟩ | exact ⟨(bS neE).trans (by assumption), (bS neE).trans (by assumption), (bS neE).trans (by assumption)⟩ | go_keep) (first
      | (go_at_call 21; refine (zH _ _ (sgQ neg ((dv (f ++ b) : Nat) : Rat)) (dG (p - (fb.size : Int))) _ (hT.q hG7) (hv6.q hq7) htv hB).mono ?_; rintro e w8 ⟨v9, rfl, hv, hq8⟩; have hG8 := hG7.trans hq8; have hR8 := hR7.q hq8; have hE8 := hE7.q hq8; obtain ⟨e0, e1, e2⟩ := hE8.cells; have fz := hR8.frozen; obtain ⟨r0, r1, r2⟩ := hR8.cells; obtain ⟨s8, C1, l1, g1, C2, l2, g2, rfl, -⟩ := hv.form)
      | (go_at_call 229; refine (aEm (p - (fb.size : Int)) _ (by omega)).mono ?_; rintro e w7 ⟨tv, rfl, htv, hq7d⟩; have hq7 : Q w6 w7 := (Q.refl w6).drew.trans hq7d; have hG7 := hG6.trans hq7; have hR7 := hR6.q hq7; have hE7 := hE6.q hq7; obtain ⟨e0, e1, e2⟩ := hE7.cells; obtain ⟨s7, A7, n7, c7, A8, n8, c8, rfl, -⟩ := htv.form))
     all_goals
      go_wp2_with fail
      have hres : iX neg f b false p = ((0 : Int), sgQ neg ((dv (f ++ b) : Nat) : Rat) * dG (p - (fb.size : Int))) := (by rw [LB.out]; exact aAU (by have h := hok.out; simp at h ⊢; exact h) HLL.out);obtain ⟨z0, z1, z2, hvF, hqF⟩ := Nq.store hR8 hv hG8 (Nat.le_refl _);unfold put3 at z0 z1 z2 hvF hqF;refine rt3 (.int .i64 0) z0 z1 z2 ?_;rw [HP.out, hres];exact ⟨_, rfl, hvF, hqF⟩
   ·go_wp2_with fail
    refine (kT fb _).mono ?_;rintro e w4 ⟨rfl, hq4⟩;have hG4 := hG3.trans hq4;have hR4 := hR3.q hq4;rw [HFB.out];by_cases hd2 : kF b
    ·rw [show kS b = true from decide_eq_true hd2];have hok : Hid (¬ (¬ kF f ∨ (true = true ∧ ¬ kF b))) := fun h => h.elim (fun h => h hd) (fun h => h.2 hd2);have hAb : bP b := hd2.1;have HAB : Hid (bP (f ++ b)) := fun c hc => (List.mem_append.1 hc).elim (hd.1 c) (hAb c);clear hAb;by_cases hl : 400 < f.length + b.length
     ·have hl2 : (400 : Int) < (fa.size : Int) + (fb.size : Int) := (by rw [LA.out, LB.out]; omega);have HLL := Lib.hid hl; clear hl;have fz := hR4.frozen;obtain ⟨r0, r1, r2⟩ := hR4.cells;go_wp2_with fail
      have hv := bH w4;have hres : iX neg f b true p = ((3 : Int), (0 : Rat)) := vT (by have h := hok.out; simp at h ⊢; exact h) HLL.out;obtain ⟨z0, z1, z2, hvF, hqF⟩ := Nq.store hR4 hv hG4 (Nat.le_refl _);unfold put3 at z0 z1 z2 hvF hqF;refine rt3 (.int .i64 3) z0 z1 z2 ?_;rw [HP.out, hres];exact ⟨_, rfl, hvF, hqF⟩
     ·have hl2 : ¬ (400 : Int) < (fa.size : Int) + (fb.size : Int) := (by rw [LA.out, LB.out]; omega);have hsa : fa.size ≤ 400 := (by rw [LA.out]; omega);have hsb : fb.size ≤ 400 := (by rw [LB.out]; omega);have HLL := Lib.hid hl; clear hl;have hcat : (fa ++ fb).data.toList = f ++ b := (by rw [kN, HFA.out, HFB.out]);have hcs2 : (fa ++ fb).size + 100 ≤ LIM := (by rw [ByteArray.size_append, aB]; omega);have HCAT := Lib.hid hcat; clear hcat;go_wp2_with fail
      refine (gG (fa ++ fb) _ (by rw [HCAT.out]; exact HAB.out) hcs2).mono ?_;rintro e w5 ⟨t1, rfl, ht1, hq5, -⟩;have hG5 := hG4.trans hq5;have hR5 := hR4.q hq5;rw [HCAT.out] at ht1;obtain ⟨A5, n5, c5, rfl⟩ := ht1.form;go_wp2_with fail
      refine (bZ neg _ (dv (f ++ b)) _ ht1).mono ?_;rintro e w6 ⟨v5, rfl, hv5, hq6⟩;have hG6 := hG5.trans hq6;have hR6 := hR5.q hq6;obtain ⟨B1, d1, B2, d2, rfl, -, -⟩ := hv5.form;have hv := Nq.int (q := sgQ neg ((dv (f ++ b) : Nat) : Rat)) hv5 (nA neg _).1 (nA neg _).2;generalize (decide (0 < dv (f ++ b)) && neg) = s4 at *
      generalize dg W64 (dv (f ++ b)) = m1 at *
      generalize dg W64 0 = m2 at *
      have hqd : Q w6 (w6.alloc (.cells #[.bool s4, .slice B1 m1 d1, .slice B2 m2 d2] 36)) := (Q.refl _).alloc _;have hE : Nb (w6.alloc (.cells #[.bool s4, .slice B1 m1 d1, .slice B2 m2 d2] 36)) w6.heap.size s4 (.slice B1 m1 d1) (.slice B2 m2 d2) := Nb.new _ _ _ _;have neE : w6.heap.size ≠ w.heap.size := (by have := hR6.lt; omega);have tw1 : IntKind.i64.wrap (p - (fb.size : Int)) = p - (fb.size : Int) := IntWalk.i64_in _ (by omega);have hz2 := aB0 neg (f ++ b) HAB.out (show (f ++ b).length ≤ 400 by rw [List.length_append]; exact Nat.le_of_not_lt HLL.out);have hz3 := aDX (p - (fb.size : Int));have hB : 16 * (sz (sgQ neg ((dv (f ++ b) : Nat) : Rat)) + sz (dG (p - (fb.size : Int)))) + 100 ≤ LIM := (by rw [aB]; omega);clear hz2 hz3;go_wp2_with fail
      generalize hwd : w6.alloc (.cells #[.bool s4, .slice B1 m1 d1, .slice B2 m2 d2] 36) = w7 at *
      clear hwd;have hG7 := hG6.trans hqd;have hR7 := hR6.q hqd;have hE7 := hE;have hv6 := hv.q hqd;clear hv;obtain ⟨e0, e1, e2⟩ := hE7.cells
      go_region_held3 (fun W => W.cell? ⟨w6.heap.size, 0, none⟩ = some (.bool s4) ∧ W.cell? ⟨w6.heap.size, 1, none⟩ = some (.slice B1 m1 d1) ∧ W.cell? ⟨w6.heap.size, 2, none⟩ = some (.slice B2 m2 d2)) (first | exact ⟨e0, e1, e2⟩ | exact ⟨by assumption, by assumption, by assumption⟩ | exact ⟨(bS neE).trans (by assumption), (bS neE).trans (by assumption), (bS neE).trans (by assumption)⟩ | go_keep) (first
       | (go_at_call 21; refine (zH _ _ (sgQ neg ((dv (f ++ b) : Nat) : Rat)) (dG (p - (fb.size : Int))) _ (hT.q hG8) (hv6.q hq8) htv hB).mono ?_; rintro e w9 ⟨v9, rfl, hv, hq9⟩; have hG9 := hG8.trans hq9; have hR9 := hR8.q hq9; have hE9 := hE8.q hq9; obtain ⟨e0, e1, e2⟩ := hE9.cells; have fz := hR9.frozen; obtain ⟨r0, r1, r2⟩ := hR9.cells; obtain ⟨s8, C1, l1, g1, C2, l2, g2, rfl, -⟩ := hv.form)
       | (go_at_call 229; refine (aEm (p - (fb.size : Int)) _ (by omega)).mono ?_; rintro e w8 ⟨tv, rfl, htv, hq8d⟩; have hq8 : Q w7 w8 := (Q.refl w7).drew.trans hq8d; have hG8 := hG7.trans hq8; have hR8 := hR7.q hq8; have hE8 := hE7.q hq8; obtain ⟨e0, e1, e2⟩ := hE8.cells; obtain ⟨s7, A7, n7, c7, A8, n8, c8, rfl, -⟩ := htv.form))
      all_goals
       go_wp2_with fail
       have hres : iX neg f b true p = ((0 : Int), sgQ neg ((dv (f ++ b) : Nat) : Rat) * dG (p - (fb.size : Int))) := (by rw [LB.out]; exact aAU (by have h := hok.out; simp at h ⊢; exact h) HLL.out);obtain ⟨z0, z1, z2, hvF, hqF⟩ := Nq.store hR9 hv hG9 (Nat.le_refl _);unfold put3 at z0 z1 z2 hvF hqF;refine rt3 (.int .i64 0) z0 z1 z2 ?_;rw [HP.out, hres];exact ⟨_, rfl, hvF, hqF⟩
    ·rw [show kS b = false from decide_eq_false hd2];have fz := hR4.frozen;obtain ⟨r0, r1, r2⟩ := hR4.cells;go_wp2_with fail
     have hv := bH w4;have hres : iX neg f b true p = ((6 : Int), (0 : Rat)) := if_pos (.inr ⟨rfl, hd2⟩);obtain ⟨z0, z1, z2, hvF, hqF⟩ := Nq.store hR4 hv hG4 (Nat.le_refl _);unfold put3 at z0 z1 z2 hvF hqF;refine rt3 (.int .i64 6) z0 z1 z2 ?_;rw [HP.out, hres];exact ⟨_, rfl, hvF, hqF⟩
  ·rw [show kS f = false from decide_eq_false hd];have fz := hR3.frozen;obtain ⟨r0, r1, r2⟩ := hR3.cells;go_wp2_with fail
   have hv := bH w3;have hres : iX neg f b two p = ((6 : Int), (0 : Rat)) := if_pos (.inl hd);obtain ⟨z0, z1, z2, hvF, hqF⟩ := Nq.store hR3 hv hG3 (Nat.le_refl _);unfold put3 at z0 z1 z2 hvF hqF;refine rt3 (.int .i64 6) z0 z1 z2 ?_;rw [HP.out, hres];exact ⟨_, rfl, hvF, hqF⟩
end Go.Proofs.YtcplpghmbahjdaaGreatDoor
namespace Go.Proofs.YtcplpghmbahjdaaGreatDoor.E
open Go
open Ma Me
noncomputable section
def iR (x : Rat) : List SV := [.b (decide (x.num < 0)), .m x.num.natAbs, .m (bt x.den)]
def aFW {α : Type} (x : Rat) (k : List SV → α) : α := Rat.rec (motive := fun _ => α) (fun n d _ _ => cb (Nat.beq d 1)
 (Int.rec (motive := fun _ => α) (fun m => fV m fun m => k [.b false, .m m, .m 0]) (fun m => fV m fun m => k [.b true, .m (Nat.succ m), .m 0]) n)
 (fV d fun d => Int.rec (motive := fun _ => α) (fun m => fV m fun m => k [.b false, .m m, .m d]) (fun m => fV m fun m => k [.b true, .m (Nat.succ m), .m d]) n)) x
def enc (x : Rat) : Option AV := aFW x fun l => some (.c true l)
def aI3 : Nat := 1024
def big : Nat := W64 ^ aI3
def small (n : Nat) : Bool := Nat.blt n big
def mkP (n d : Nat) (hd : Nat.beq d 0 = false) (hg : Nat.beq (Nat.gcd n d) 1 = true) : Rat := ⟨.ofNat n, d, fun h => (by rw [h] at hd; cases hd), Nat.eq_of_beq_eq_true hg⟩
def mkM (n d : Nat) (hd : Nat.beq d 0 = false) (hn : Nat.beq n 0 = false) (hg : Nat.beq (Nat.gcd n d) 1 = true) : Rat := ⟨.negSucc (Nat.pred n), d, fun h => (by rw [h] at hd; cases hd), by
 have h : (Int.negSucc (Nat.pred n)).natAbs = n := by cases n with
  | zero => cases hn
  | succ n => rfl
 rw [h];exact Nat.eq_of_beq_eq_true hg⟩
def aI4 (n d : Nat) (hd : Nat.beq d 0 = false) (hg : Nat.beq (Nat.gcd n d) 1 = true) : Option Rat :=
 Bool.rec (motive := fun b => Nat.beq n 0 = b → Option Rat) (fun hn => some (mkM n d hd hn hg)) (fun _ => none) (Nat.beq n 0) rfl
def aKZ (s : Bool) (n d : Nat) (hd : Nat.beq d 0 = false) : Option Rat :=
 Bool.rec (motive := fun b => Nat.beq (Nat.gcd n d) 1 = b → Option Rat) (fun _ => none) (fun hg => Bool.rec (motive := fun _ => Option Rat) (some (mkP n d hd hg)) (aI4 n d hd hg) s) (Nat.beq (Nat.gcd n d) 1) rfl
def aK0 (s : Bool) (n d : Nat) : Option Rat :=
 Bool.rec (motive := fun b => Nat.beq d 0 = b → Option Rat) (fun hd => aKZ s n d hd) (fun _ => none) (Nat.beq d 0) rfl
def aI5 (s : Bool) (n m : Nat) : Option Rat := cb (Nat.beq m 1) none (cb (small n) (cb (small m) (aK0 s n (cb (Nat.beq m 0) 1 m)) none) none)
def num {α : Type} (v : AV) (k : Rat → Option α) : Option α := match v with | .c true [.b s, .m n, .m m] => ob (aI5 s n m) k | _ => none
def p1 (f : Rat → Option AV) (l : List AV) : Option AV := match l with | [x] => num x f | _ => none
def p2 (f : Rat → Rat → Option AV) (l : List AV) : Option AV := match l with | [x, y] => num x fun p => num y fun q => f p q | _ => none
def int {α : Type} (v : AV) (k : Int → Option α) : Option α := match v with | .c false [.i .i64 n] => k n | _ => none
def er (r : Int × Rat) : Option AV := aFW r.2 fun l => some (.t [(true, l), (false, [.i .i64 r.1])])
def by8 (l : List Nat) : List UInt8 := l.map UInt8.ofNat
def un8 (l : List UInt8) : List Nat := l.map UInt8.toNat
def aI6 (l : List AV) : Option AV := match l with | [x] => int x fun n => cb (decide (-9223372036854775808 ≤ n) && decide (n ≤ 9223372036854775807)) (enc (n : Rat)) none | _ => none
def aI7 (l : List AV) : Option AV := match l with | [x, n] => num x fun p => int n fun n => er (lH p n) | _ => none
def okS (l : List Nat) : Bool := Nat.blt (len l) 1000000
def aC3 (l : List AV) : Option AV := match l with | [.c false [.s l]] => cb (okS l) (er (sO (by8 l))) none | _ => none
def aFX (l : List AV) : Option AV := match l with | [.c false [.s l], .c false [.s [c]]] => cb (okS l) (some (.t [(false, [.s (un8 (fU (UInt8.ofNat c) (by8 l)))]), (false, [.s (un8 (aft (UInt8.ofNat c) (by8 l)))]), (false, [.b (decide (UInt8.ofNat c ∈ by8 l))])])) none | _ => none
def xN (l : List AV) : Option AV := match l with | [.c false [.s l], .c false [.i .i64 (.ofNat n)]] => cb (okS l && decide (0 < len l) && decide (2 ≤ n) && decide (n ≤ 1000000)) (some (sc (.s (un8 (Lib.repeatL (by8 l) n))))) none | _ => none
def aC4 (l : List AV) : Option AV := match l with | [.c false [.i .u64 (.ofNat n)]] => cb (Nat.blt n 18446744073709551616) (some (sc (.m n))) none | _ => none
def rJ (l : List AV) : Option AV := match l with | [.c false [.b s], .c false [.m n], .c false [.m m]] => some (cb (Nat.beq n 0) (.c true [.b false, .m 0, .m 0]) (.c true [.b s, .m n, .m (bt m)])) | _ => none
abbrev ZF := Bool → Nat → Option AV
def zz7 (k : ZF) (fb : Option AV) (s : Bool) (n : Nat) : Option AV := Bool.rec (motive := fun _ => Option AV) (k false n) (Bool.rec (motive := fun _ => Option AV) (k true n) fb (Nat.beq n 0)) s
def zz6 (k : ZF) (fb : Option AV) (s : Bool) (n m : Nat) : Option AV := Bool.rec (motive := fun _ => Option AV) fb (Bool.rec (motive := fun _ => Option AV) fb (zz7 k fb s n) (small n)) (Nat.beq m 0)
def zz5 (k : ZF) (fb : Option AV) (s : Bool) (n m : Nat) (l : List SV) : Option AV := List.rec (motive := fun _ => Option AV) (zz6 k fb s n m) (fun _ _ _ => fb) l
def zz4 (k : ZF) (fb : Option AV) (s : Bool) (n : Nat) (l : List SV) (z : SV) : Option AV := SV.rec (motive := fun _ => Option AV) fb (fun _ => fb) (fun _ _ => fb) (fun _ => fb) fb (fun _ _ => fb) fb (fun _ _ _ _ => fb) (fun m => zz5 k fb s n m l) fb (fun _ _ => fb) (fun _ => fb) z
def zz3 (k : ZF) (fb : Option AV) (s : Bool) (l : List SV) (n : Nat) : Option AV := List.rec (motive := fun _ => Option AV) fb (fun z l _ => zz4 k fb s n l z) l
def zz2 (k : ZF) (fb : Option AV) (s : Bool) (l : List SV) (y : SV) : Option AV := SV.rec (motive := fun _ => Option AV) fb (fun _ => fb) (fun _ _ => fb) (fun _ => fb) fb (fun _ _ => fb) fb (fun _ _ _ _ => fb) (zz3 k fb s l) fb (fun _ _ => fb) (fun _ => fb) y
def zz1 (k : ZF) (fb : Option AV) (l : List SV) (s : Bool) : Option AV := List.rec (motive := fun _ => Option AV) fb (fun y l _ => zz2 k fb s l y) l
def zz0 (k : ZF) (fb : Option AV) (l : List SV) (x : SV) : Option AV := SV.rec (motive := fun _ => Option AV) fb (zz1 k fb l) (fun _ _ => fb) (fun _ => fb) fb (fun _ _ => fb) fb (fun _ _ _ _ => fb) (fun _ => fb) fb (fun _ _ => fb) (fun _ => fb) x
def zzl (k : ZF) (fb : Option AV) (l : List SV) : Option AV := List.rec (motive := fun _ => Option AV) fb (fun x l _ => zz0 k fb l x) l
def zzg (k : ZF) (fb : Option AV) (g : Bool) (l : List SV) : Option AV := Bool.rec (motive := fun _ => Option AV) fb (zzl k fb l) g
def zz (v : AV) (k : ZF) (fb : Option AV) : Option AV := AV.rec (motive := fun _ => Option AV) (zzg k fb) (fun _ => fb) v
def mK (s : Bool) (n : Nat) : Option AV := fV n fun n => some (.c true [.b s, .m n, .m 0])
def aC5 (s t : Bool) (n m : Nat) : Option AV := cb (Nat.beq n m) (mK false 0) (cb (Nat.blt n m) (mK t (Nat.sub m n)) (mK s (Nat.sub n m)))
def aFY (s : Bool) (n : Nat) (t : Bool) (m : Nat) : Option AV := cb s (cb t (mK true (Nat.add n m)) (aC5 true false n m)) (cb t (aC5 false true n m) (mK false (Nat.add n m)))
def aC6 (t : Bool) (m : Nat) : Bool := cb t false (cb (Nat.beq m 0) false true)
def aK1 (s : Bool) (n : Nat) (t : Bool) (m : Nat) : Option AV := aFY s n (aC6 t m) m
def aGG (s t : Bool) (n : Nat) : Option AV := cb (Nat.beq n 0) (mK false 0) (mK (cb s (jD t) t) n)
def aFZ (s : Bool) (n : Nat) (t : Bool) (m : Nat) : Option AV := aGG s t (Nat.mul n m)
def zLt (n m : Nat) : Option AV := cb (Nat.beq n m) (some (sc (.i .i64 0))) (cb (Nat.blt n m) (some (sc (.i .i64 (.negSucc 0)))) (some (sc (.i .i64 1))))
def aI8 (s : Bool) (n : Nat) (t : Bool) (m : Nat) : Option AV := cb s (cb t (zLt m n) (some (sc (.i .i64 (.negSucc 0))))) (cb t (some (sc (.i .i64 1))) (zLt n m))
def aGH (s : Bool) (n : Nat) : Option AV := cb s (some (sc (.i .i64 (.negSucc 0)))) (cb (Nat.beq n 0) (some (sc (.i .i64 0))) (some (sc (.i .i64 1))))
def z2 (f : Bool → Nat → Bool → Nat → Option AV) (g : Rat → Rat → Option AV) (l : List AV) : Option AV := match l with
 | [x, y] => zz x (fun s n => zz y (fun t m => f s n t m) (p2 g [x, y])) (p2 g [x, y])
 | _ => none
def z1 (f : Bool → Nat → Option AV) (g : Rat → Option AV) (l : List AV) : Option AV := match l with
 | [x] => zz x f (p1 g [x])
 | _ => none
def zJ : List (Nat × (List AV → Option AV)) :=
 [(102, p1 enc),
  (133, p1 fun p => enc (nL p)),
  (100, p1 fun p => enc (-p)),
  (54, aC4),
  (53, rJ),
  (132, p2 fun p q => enc (aCE p q)),
  (101, p2 fun p q => enc (kE p q)),
  (19, aI6),
  (18, z2 aFY fun p q => enc (p + q)),
  (38, z2 aK1 fun p q => enc (p - q)),
  (21, z2 aFZ fun p q => enc (p * q)),
  (41, p2 fun p q => er (aAP p q)),
  (127, p1 fun p => enc (-p)),
  (122, p1 fun p => enc (nL p)),
  (39, p2 fun p q => enc (kE p q)),
  (203, p1 fun p => enc (p.floor : Rat)),
  (40, z1 aGH fun p => some (sc (.i .i64 (sn p)))),
  (20, z2 aI8 fun p q => some (sc (.i .i64 (rc p q)))),
  (217, aI7),
  (27, p1 fun p => some (sc (.s (un8 (sK p))))),
  (219, aC3),
  (88, aFX),
  (220, xN)]
def aKl : T 3 (List AV → Option AV) := T.ofL zJ
def F0 : Cf := ⟨Tryz.prog, fun w => Tb w ∧ Px w, 34, fun f => aKl.get f, aJ6, fun _ => none⟩
end
end Go.Proofs.YtcplpghmbahjdaaGreatDoor.E
namespace Go.Proofs.YtcplpghmbahjdaaGreatDoor.E
open Go
section
variable {α β : Type}
theorem aA {r : Option α} {f : α → Option β} {y : β} : ob r f = some y ↔ ∃ a, r = some a ∧ f a = some y := by
 cases r <;> simp [ob]
theorem aD {c : Bool} {x : Option α} {y : α} : cb c x none = some y ↔ c = true ∧ x = some y := by cases c <;> simp [cb]
theorem cbn {c : Bool} {x : Option α} {y : α} : cb c none x = some y ↔ c = false ∧ x = some y := by cases c <;> simp [cb]
theorem aW {c : Bool} {x y : α} : cb c x y = if c = true then x else y := by cases c <;> rfl
theorem iW (l : List α) : len l = l.length := by
 induction l with
 | nil => rfl
 | cons x l ih => show Nat.succ (len l) = _; rw [ih]; rfl
theorem kZ (l m : List α) : app l m = l ++ m := by
 induction l with
 | nil => rfl
 | cons x l ih => show x :: app l m = _; rw [ih]; rfl
theorem vU (n : Nat) (l : List α) : drp n l = l.drop n := by
 induction n generalizing l with
 | zero => rfl
 | succ n ih =>
   cases l with
   | nil => rfl
   | cons x l => exact ih l
theorem pU {n : Nat} {l m : List α} : iY n l = some m ↔ n ≤ l.length ∧ m = l.take n := by
 induction n generalizing l m with
 | zero => show some [] = some m ↔ _; simp [eq_comm]
 | succ n ih =>
   cases l with
   | nil => show (none : Option (List α)) = some m ↔ _; simp
   | cons x l =>
     show ob (iY n l) (fun m => some (x :: m)) = some m ↔ _;rw [aA];constructor
     ·rintro ⟨a, h1, h2⟩;obtain ⟨h3, rfl⟩ := ih.1 h1;injection h2 with h2;exact ⟨by simp; omega, by simpa using h2.symm⟩
     ·rintro ⟨h1, rfl⟩;exact ⟨l.take n, ih.2 ⟨by simpa using h1, rfl⟩, by simp⟩
theorem aF0 {xs l m : List α} : ovr xs l = some m ↔ xs.length ≤ l.length ∧ m = xs ++ l.drop xs.length := by
 induction xs generalizing l m with
 | nil => show some l = some m ↔ _; simp [eq_comm]
 | cons x xs ih =>
   cases l with
   | nil => show (none : Option (List α)) = some m ↔ _; simp
   | cons y l =>
     show ob (ovr xs l) (fun m => some (x :: m)) = some m ↔ _;rw [aA];constructor
     ·rintro ⟨a, h1, h2⟩;obtain ⟨h3, rfl⟩ := ih.1 h1;injection h2 with h2;exact ⟨by simp; omega, by simpa using h2.symm⟩
     ·rintro ⟨h1, rfl⟩;exact ⟨_, ih.2 ⟨by simpa using h1, rfl⟩, by simp⟩
theorem rM {off : Nat} {xs l m : List α} : lG off xs l = some m ↔ off + xs.length ≤ l.length ∧ m = l.take off ++ xs ++ l.drop (off + xs.length) := by
 induction off generalizing l m with
 | zero => show ovr xs l = some m ↔ _; rw [aF0]; simp
 | succ n ih =>
   cases l with
   | nil => show (none : Option (List α)) = some m ↔ _; simp
   | cons y l =>
     show ob (lG n xs l) (fun m => some (y :: m)) = some m ↔ _;rw [aA];constructor
     ·rintro ⟨a, h1, h2⟩;obtain ⟨h3, rfl⟩ := ih.1 h1;injection h2 with h2;refine ⟨by simp; omega, ?_⟩;rw [← h2, show n + 1 + xs.length = n + xs.length + 1 from by omega];simp
     ·rintro ⟨h1, rfl⟩;refine ⟨_, ih.2 ⟨by simp at h1; omega, rfl⟩, ?_⟩;rw [show n + 1 + xs.length = n + xs.length + 1 from by omega];simp
theorem aV {n : Nat} {f : Nat → α} : fV n f = f n := by cases n <;> rfl
theorem xO {n : Int} {f : Int → α} : aAr n f = f n := by
 cases n with
 | ofNat m => exact aV (f := fun m => f (.ofNat m))
 | negSucc m => exact aV (f := fun m => f (.negSucc m))
theorem aJ {a b : Nat} : Nat.beq a b = true ↔ a = b := ⟨Nat.eq_of_beq_eq_true, fun h => by subst h; exact Nat.beq_refl a⟩
theorem aGI {a b : Nat} : Nat.beq a b = false ↔ a ≠ b := by
 have h := @aJ a b;cases e : Nat.beq a b <;> rw [e] at h <;> simp at h ⊢ <;> exact h
theorem bO {a b : Nat} : Nat.blt a b = true ↔ a < b := by simp [Nat.blt, Nat.ble_eq]; omega
theorem aKm {a b : Nat} : Nat.blt a b = false ↔ ¬ a < b := by rw [← bO]; cases Nat.blt a b <;> simp
theorem fQ {a b : Nat} : Nat.ble a b = true ↔ a ≤ b := by rw [Nat.ble_eq]
theorem aHI (d d' : Nat) (hd : d < 8) (hd' : d' < 8) (f : α → α) (x : N α) : (ls1 d).g ((ls1 d').u f x) = if d = d' then f ((ls1 d).g x) else (ls1 d).g x := by
 obtain ⟨_, _, _, _, _, _, _, _⟩ := x
 rcases (by omega : d = 0 ∨ d = 1 ∨ d = 2 ∨ d = 3 ∨ d = 4 ∨ d = 5 ∨ d = 6 ∨ d = 7) with rfl | rfl | rfl | rfl | rfl | rfl | rfl | rfl <;>
  rcases (by omega : d' = 0 ∨ d' = 1 ∨ d' = 2 ∨ d' = 3 ∨ d' = 4 ∨ d' = 5 ∨ d' = 6 ∨ d' = 7) with rfl | rfl | rfl | rfl | rfl | rfl | rfl | rfl <;> rfl
theorem aKn {X Y Z : Type} (l : Ls X Y) (m : Ls Y Z) (x : X) : (l.cmp m).g x = m.g (l.g x) := by cases l; cases m; rfl
theorem aKo {X Y Z : Type} (l : Ls X Y) (m : Ls Y Z) (f : Z → Z) (x : X) : (l.cmp m).u f x = l.u (m.u f) x := by cases l; cases m; rfl
theorem T.get_ls {n : Nat} (t : T n α) (k : Nat) : t.get k = (T.ls α n k).g t := by unfold T.get; cases T.ls α n k; rfl
theorem T.set_ls {n : Nat} (x : α) (t : T n α) (k : Nat) : T.set x t k = (T.ls α n k).u (fun _ => some x) t := by unfold T.set; cases T.ls α n k; rfl
theorem T.get_z (t : T 0 α) (k : Nat) : t.get k = if k = 0 then (show Option α from t) else none := by
 rw [T.get_ls];show (cb (Nat.beq k 0) _ _ : Ls (T 0 α) (Option α)).g t = _;rw [aW];by_cases h : k = 0
 ·rw [if_pos h, if_pos (aJ.2 h)]
 ·rw [if_neg h, if_neg (fun e => h (aJ.1 e))]
theorem T.set_z (x : α) (t : T 0 α) (k : Nat) : T.set x t k = if k = 0 then (show T 0 α from (some x : Option α)) else t := by
 rw [T.set_ls];show (cb (Nat.beq k 0) _ _ : Ls (T 0 α) (Option α)).u (fun _ => some x) t = _;rw [aW];by_cases h : k = 0
 ·rw [if_pos h, if_pos (aJ.2 h)]
 ·rw [if_neg h, if_neg (fun e => h (aJ.1 e))]
noncomputable def T.pk {n : Nat} (t : T (n + 1) α) (d : Nat) : T n α := (ls1 (X := T n α) d).g t
noncomputable def T.pt {n : Nat} (d : Nat) (f : T n α → T n α) (t : T (n + 1) α) : T (n + 1) α := (ls1 (X := T n α) d).u f t
theorem T.pk_pt {n : Nat} (d d' : Nat) (hd : d < 8) (hd' : d' < 8) (f : T n α → T n α) (t : T (n + 1) α) : (T.pt d' f t).pk d = if d = d' then f (t.pk d) else t.pk d := aHI d d' hd hd' f t
theorem T.get_s {n : Nat} (t : T (n + 1) α) (k : Nat) : t.get k = (t.pk (k % 8)).get (k / 8) := by
 rw [T.get_ls, T.get_ls];exact aKn (ls1 (X := T n α) (k % 8)) (T.ls α n (k / 8)) t
theorem T.set_s {n : Nat} (x : α) (t : T (n + 1) α) (k : Nat) : T.set x t k = T.pt (k % 8) (fun y => T.set x y (k / 8)) t := by
 rw [T.set_ls, show (fun y : T n α => T.set x y (k / 8)) = (T.ls α n (k / 8)).u (fun _ => some x) from funext fun y => T.set_ls x y (k / 8)];exact aKo (ls1 (X := T n α) (k % 8)) (T.ls α n (k / 8)) (fun _ => some x) t
theorem T.get_lf {n k : Nat} : (T.lf : T n α).get k = none := by
 induction n generalizing k with
 | zero => rw [T.get_z]; split <;> rfl
 | succ n ih =>
   rw [T.get_s];have : (T.lf : T (n + 1) α).pk (k % 8) = T.lf := by
    have hk := Nat.mod_lt k (show 0 < 8 by decide);generalize k % 8 = d at hk;rcases (by omega : d = 0 ∨ d = 1 ∨ d = 2 ∨ d = 3 ∨ d = 4 ∨ d = 5 ∨ d = 6 ∨ d = 7) with rfl | rfl | rfl | rfl | rfl | rfl | rfl | rfl <;> rfl
   rw [this, ih]
theorem T.get_upd {n : Nat} {x : α} {t : T n α} {k j : Nat} : ((T.set x t k).get j = t.get j) ∨ (j = k ∧ (T.set x t k).get j = some x) := by
 induction n generalizing k j with
 | zero =>
   rw [T.set_z, T.get_z, T.get_z];by_cases hk : k = 0
   ·by_cases hj : j = 0
    ·exact .inr ⟨hj.trans hk.symm, by rw [if_pos hj, if_pos hk]⟩
    ·exact .inl (by rw [if_neg hj, if_neg hj])
   ·exact .inl (by rw [if_neg hk])
 | succ n ih =>
   rw [T.set_s, T.get_s, T.get_s];have hk := Nat.mod_lt k (show 0 < 8 by decide);have hj := Nat.mod_lt j (show 0 < 8 by decide);rw [T.pk_pt _ _ hj hk];by_cases h : j % 8 = k % 8
   ·rw [if_pos h];rcases ih (t := t.pk (j % 8)) (k := k / 8) (j := j / 8) with h1 | ⟨h1, h2⟩
    ·exact .inl h1
    ·exact .inr ⟨by omega, h2⟩
   ·exact .inl (by rw [if_neg h])
theorem T.get_same {n : Nat} {x : α} {t : T n α} {k : Nat} : ((T.set x t k).get k = some x) ∨ ∀ u : T n α, u.get k = none := by
 induction n generalizing k with
 | zero =>
   rw [T.set_z, T.get_z];by_cases hk : k = 0
   ·exact .inl (by rw [if_pos hk, if_pos hk])
   ·exact .inr fun u => by rw [T.get_z, if_neg hk]
 | succ n ih =>
   rw [T.set_s, T.get_s];have hk := Nat.mod_lt k (show 0 < 8 by decide);rw [T.pk_pt _ _ hk hk, if_pos rfl];rcases ih (t := t.pk (k % 8)) (k := k / 8) with h | h
   ·exact .inl h
   ·exact .inr fun u => by rw [T.get_s]; exact h _
theorem T.get_set {n : Nat} {x y : α} {t : T n α} {k j : Nat} (h : (T.set x t k).get j = some y) : (j = k ∧ y = x) ∨ (j ≠ k ∧ t.get j = some y) := by
 by_cases hj : j = k
 ·subst hj;rcases T.get_same (x := x) (t := t) (k := j) with h1 | h1
  ·rw [h1] at h; injection h with h; exact .inl ⟨rfl, h.symm⟩
  ·rw [h1] at h; cases h
 ·rcases T.get_upd (x := x) (t := t) (k := k) (j := j) with h1 | ⟨h1, -⟩
  ·exact .inr ⟨hj, h1 ▸ h⟩
  ·exact absurd h1 hj
end
end Go.Proofs.YtcplpghmbahjdaaGreatDoor.E
namespace Go.Proofs.YtcplpghmbahjdaaGreatDoor.E
open Go
def Pm (h : H) (x y : Option VH) : Prop := x = y.map fun r => (r.1, h)
section
variable {α : Type} {h h0 : H}
theorem Pm.no : Pm h none none := rfl
theorem Pm.ye {v : AV} : Pm h (some (v, h)) (some (v, h0)) := rfl
theorem Pm.vh {x : SV} : Pm h (vh x h) (vh x h0) := rfl
theorem Pm.ob {r : Option α} {f g : α → Option VH} (k : ∀ a, Pm h (f a) (g a)) : Pm h (ob r f) (ob r g) := by
 cases r with
 | none => rfl
 | some a => exact k a
theorem Pm.cb {c : Bool} {x x' y y' : Option VH} (k1 : Pm h x y) (k2 : Pm h x' y') : Pm h (cb c x x') (cb c y y') := by
 cases c
 ·exact k2
 ·exact k1
theorem Pm.hd1 {l : List SV} {f g : SV → Option VH} (k : ∀ a, Pm h (f a) (g a)) : Pm h (hd1 l f) (hd1 l g) := by
 rcases l with _ | ⟨a, _ | ⟨b, l⟩⟩
 ·rfl
 ·exact k a
 ·rfl
theorem Pm.one {v : AV} {f g : SV → Option VH} (k : ∀ a, Pm h (f a) (g a)) : Pm h (one v f) (one v g) := by
 cases v with
 | c a l => cases a with
   | false => exact Pm.hd1 k
   | true => rfl
 | t l => rfl
theorem Pm.agg {v : AV} {f g : List SV → Option VH} (k : ∀ a, Pm h (f a) (g a)) : Pm h (agg v f) (agg v g) := by
 cases v with
 | c a l => cases a with
   | false => rfl
   | true => exact k l
 | t l => rfl
theorem Pm.natOf {x : SV} {f g : Nat → Option VH} (k : ∀ a, Pm h (f a) (g a)) : Pm h (natOf x f) (natOf x g) := by
 cases x with
 | i j n => cases n with
   | ofNat n => exact k n
   | negSucc n => rfl
 | _ => rfl
theorem Pm.bound {e : Env} {x : Option Operand} {d : Nat} {f g : Nat → Option VH} (k : ∀ a, Pm h (f a) (g a)) : Pm h (bound e x d f) (bound e x d g) := by
 cases x with
 | none => exact k d
 | some x => exact Pm.ob fun v => Pm.one fun s => Pm.natOf k
theorem Pm.chk {a b c : Nat} {x y : Option VH} (k : Pm h x y) : Pm h (chk a b c x) (chk a b c y) := Pm.cb (Pm.cb k rfl) rfl
theorem Pm.opt {x : Option α} {a b : Option VH} {f g : α → Option VH} (k1 : Pm h a b) (k2 : ∀ x, Pm h (f x) (g x)) : Pm h (Option.rec (motive := fun _ => Option VH) a f x) (Option.rec (motive := fun _ => Option VH) b g x) := by
 cases x with
 | none => exact k1
 | some x => exact k2 x
theorem Pm.got {x y : Option VH} {v : AV} {h' : H} (k : Pm h x y) (hx : x = some (v, h')) : h' = h := by
 rw [k] at hx;cases y with
 | none => cases hx
 | some r => cases hx; rfl
end
section
variable {F : Cf} {call : aG} {e e' : Env} {h h0 : H}
theorem aB1 {c a d : Operand} : Pm h (sP e h c a d) (sP e h0 c a d) := by unfold sP; repeat' (first | exact rfl | exact Pm.no | exact Pm.ye | exact Pm.vh | refine Pm.ob fun _ => ?_ | refine Pm.cb ?_ ?_ | refine Pm.one fun _ => ?_ | refine Pm.agg fun _ => ?_ | refine Pm.natOf fun _ => ?_ | refine Pm.bound fun _ => ?_ | refine Pm.chk ?_ | refine Pm.opt ?_ fun _ => ?_ | split)
theorem aAW {t : Nat} {ps : List (Nat × Operand)} : Pm h (oD F e h t ps) (oD F e h0 t ps) := by unfold oD; repeat' (first | exact rfl | exact Pm.no | exact Pm.ye | exact Pm.vh | refine Pm.ob fun _ => ?_ | refine Pm.cb ?_ ?_ | refine Pm.one fun _ => ?_ | refine Pm.agg fun _ => ?_ | refine Pm.natOf fun _ => ?_ | refine Pm.bound fun _ => ?_ | refine Pm.chk ?_ | refine Pm.opt ?_ fun _ => ?_ | split)
theorem aEr {x : Operand} : Pm h (wW e h x) (wW e h0 x) := by unfold wW; repeat' (first | exact rfl | exact Pm.no | exact Pm.ye | exact Pm.vh | refine Pm.ob fun _ => ?_ | refine Pm.cb ?_ ?_ | refine Pm.one fun _ => ?_ | refine Pm.agg fun _ => ?_ | refine Pm.natOf fun _ => ?_ | refine Pm.bound fun _ => ?_ | refine Pm.chk ?_ | refine Pm.opt ?_ fun _ => ?_ | split)
theorem aEs {op : BinOp} {t : Nat} {x y : Operand} : Pm h (gW F e h op t x y) (gW F e h0 op t x y) := by unfold gW; repeat' (first | exact rfl | exact Pm.no | exact Pm.ye | exact Pm.vh | refine Pm.ob fun _ => ?_ | refine Pm.cb ?_ ?_ | refine Pm.one fun _ => ?_ | refine Pm.agg fun _ => ?_ | refine Pm.natOf fun _ => ?_ | refine Pm.bound fun _ => ?_ | refine Pm.chk ?_ | refine Pm.opt ?_ fun _ => ?_ | split)
theorem aGJ {op : UnOp} {x : Operand} : Pm h (oUn e h op x) (oUn e h0 op x) := by unfold oUn; repeat' (first | exact rfl | exact Pm.no | exact Pm.ye | exact Pm.vh | refine Pm.ob fun _ => ?_ | refine Pm.cb ?_ ?_ | refine Pm.one fun _ => ?_ | refine Pm.agg fun _ => ?_ | refine Pm.natOf fun _ => ?_ | refine Pm.bound fun _ => ?_ | refine Pm.chk ?_ | refine Pm.opt ?_ fun _ => ?_ | split)
theorem aB2 {s d : Nat} {x : Operand} : Pm h (sQ F e h s d x) (sQ F e h0 s d x) := by unfold sQ; repeat' (first | exact rfl | exact Pm.no | exact Pm.ye | exact Pm.vh | refine Pm.ob fun _ => ?_ | refine Pm.cb ?_ ?_ | refine Pm.one fun _ => ?_ | refine Pm.agg fun _ => ?_ | refine Pm.natOf fun _ => ?_ | refine Pm.bound fun _ => ?_ | refine Pm.chk ?_ | refine Pm.opt ?_ fun _ => ?_ | split)
theorem aB3 {fn : Fn} {a c : List Operand} : Pm h (pF e h fn a c) (pF e h0 fn a c) := by unfold pF; repeat' (first | exact rfl | exact Pm.no | exact Pm.ye | exact Pm.vh | refine Pm.ob fun _ => ?_ | refine Pm.cb ?_ ?_ | refine Pm.one fun _ => ?_ | refine Pm.agg fun _ => ?_ | refine Pm.natOf fun _ => ?_ | refine Pm.bound fun _ => ?_ | refine Pm.chk ?_ | refine Pm.opt ?_ fun _ => ?_ | split)
theorem aAX {t : Nat} {x : Operand} {lo hi mx : Option Operand} : Pm h (oF F e h t x lo hi mx) (oF F e h0 t x lo hi mx) := by unfold oF; repeat' (first | exact rfl | exact Pm.no | exact Pm.ye | exact Pm.vh | refine Pm.ob fun _ => ?_ | refine Pm.cb ?_ ?_ | refine Pm.one fun _ => ?_ | refine Pm.agg fun _ => ?_ | refine Pm.natOf fun _ => ?_ | refine Pm.bound fun _ => ?_ | refine Pm.chk ?_ | refine Pm.opt ?_ fun _ => ?_ | split)
theorem aGK {s f : Nat} {x : Operand} : Pm h (oFA F e h s x f) (oFA F e h0 s x f) := by unfold oFA; repeat' (first | exact rfl | exact Pm.no | exact Pm.ye | exact Pm.vh | refine Pm.ob fun _ => ?_ | refine Pm.cb ?_ ?_ | refine Pm.one fun _ => ?_ | refine Pm.agg fun _ => ?_ | refine Pm.natOf fun _ => ?_ | refine Pm.bound fun _ => ?_ | refine Pm.chk ?_ | refine Pm.opt ?_ fun _ => ?_ | split)
theorem aAY {s f : Nat} {x : Operand} : Pm h (oG F e h s x f) (oG F e h0 s x f) := by unfold oG; repeat' (first | exact rfl | exact Pm.no | exact Pm.ye | exact Pm.vh | refine Pm.ob fun _ => ?_ | refine Pm.cb ?_ ?_ | refine Pm.one fun _ => ?_ | refine Pm.agg fun _ => ?_ | refine Pm.natOf fun _ => ?_ | refine Pm.bound fun _ => ?_ | refine Pm.chk ?_ | refine Pm.opt ?_ fun _ => ?_ | split)
theorem aGL {t : Nat} {x y : Operand} : Pm h (oIA F e h t x y) (oIA F e h0 t x y) := by unfold oIA; repeat' (first | exact rfl | exact Pm.no | exact Pm.ye | exact Pm.vh | refine Pm.ob fun _ => ?_ | refine Pm.cb ?_ ?_ | refine Pm.one fun _ => ?_ | refine Pm.agg fun _ => ?_ | refine Pm.natOf fun _ => ?_ | refine Pm.bound fun _ => ?_ | refine Pm.chk ?_ | refine Pm.opt ?_ fun _ => ?_ | split)
theorem aGM {t : Nat} {x y : Operand} : Pm h (oIx F e h t x y) (oIx F e h0 t x y) := by unfold oIx; repeat' (first | exact rfl | exact Pm.no | exact Pm.ye | exact Pm.vh | refine Pm.ob fun _ => ?_ | refine Pm.cb ?_ ?_ | refine Pm.one fun _ => ?_ | refine Pm.agg fun _ => ?_ | refine Pm.natOf fun _ => ?_ | refine Pm.bound fun _ => ?_ | refine Pm.chk ?_ | refine Pm.opt ?_ fun _ => ?_ | split)
theorem aEt {x : Operand} {i : Nat} : Pm h (wX e h x i) (wX e h0 x i) := by
 unfold wX;refine Pm.ob fun v => ?_;cases v <;> repeat' (first | exact rfl | exact Pm.no | exact Pm.ye | exact Pm.vh | refine Pm.ob fun _ => ?_ | refine Pm.cb ?_ ?_ | refine Pm.one fun _ => ?_ | refine Pm.agg fun _ => ?_ | refine Pm.natOf fun _ => ?_ | refine Pm.bound fun _ => ?_ | refine Pm.chk ?_ | refine Pm.opt ?_ fun _ => ?_ | split)
end
section
variable {F : Cf} {call : aG} {e e' : Env} {h h0 : H}
theorem aAZ {l : List Operand} (k : ∀ x ∈ l, ev e x = ev e' x) : evL e l = evL e' l := by
 induction l with
 | nil => rfl
 | cons x l ih =>
   show ob (ev e x) _ = ob (ev e' x) _;rw [k x List.mem_cons_self];have := ih fun y hy => k y (List.mem_cons_of_mem _ hy);unfold evL at this;rw [this]
theorem vV {pl : Nat → Option (Nat × Nat)} {ps : List (Nat × Operand)} (k : ∀ p ∈ ps, ev e p.2 = ev e' p.2) : parts pl e ps = parts pl e' ps := by
 induction ps with
 | nil => rfl
 | cons p ps ih =>
   have h1 := ih fun y hy => k y (List.mem_cons_of_mem _ hy);have h2 := k p List.mem_cons_self;funext acc;show (ob (pl p.1) fun q => ob (ev e p.2) fun v => cells v fun c => cb (Nat.beq (len c) q.2) (ob (lG q.1 c acc) (parts pl e ps)) none) = (ob (pl p.1) fun q => ob (ev e' p.2) fun v => cells v fun c => cb (Nat.beq (len c) q.2) (ob (lG q.1 c acc) (parts pl e' ps)) none)
   rw [h1, h2]
theorem vW {α : Type} {x : Option Operand} {d : Nat} {f : Nat → Option α} (k : ∀ y, x = some y → ev e y = ev e' y) : bound e x d f = bound e' x d f := by
 cases x with
 | none => rfl
 | some y => show ob (ev e y) _ = ob (ev e' y) _; rw [k y rfl]
end
end Go.Proofs.YtcplpghmbahjdaaGreatDoor.E
namespace Go.Proofs.YtcplpghmbahjdaaGreatDoor.E
open Go Go.RowKit
open Ma Me K
structure Cx where
 n : Nat
 /-- the numbers that are known here -/
 k : Nat → Prop
 r : Nat → Nat
 w : World
 z : TypeId → Nat
def ptr (c : Cx) (p : Nat × Nat) : Value := .pointer (some ⟨c.r p.1, p.2, none⟩)
def SR (c : Cx) : SV → Value → Prop
 | .u, _ => False
 | .b x, v => v = .bool x
 | .i k n, v => v = .int k n
 | .s l, v => ∃ s, v = .string s ∧ bytes s = l
 | .np, v => v = .pointer none
 | .p id off, v => c.k id ∧ v = .pointer (some ⟨c.r id, off, none⟩)
 | .ns, v => v = .slice none 0 0
 | .sl id off len (some cap), v => c.k id ∧ v = .slice (some ⟨c.r id, off, none⟩) len cap
 | .sl id off len none, v => c.k id ∧ ∃ cap, len ≤ cap ∧ v = .slice (some ⟨c.r id, off, none⟩) len cap ∧ off = 0 ∧ ∃ t cs fr, c.w.heap[c.r id]? = some (.cells cs t fr) ∧ cap * c.z t ≤ cs.size
 | .m n, v => Nm c.w v n
 | .nf, v => v = .nilFunc
 | .f fn cs, v => (∀ p ∈ cs, c.k p.1) ∧ v = .func (.func fn) #[] (cs.map (ptr c)).toArray
 | .y l, v => c.k l ∧ v = .func (.yield (c.r l)) #[] #[]
def CL (c : Cx) : List SV → List Value → Prop
 | [], [] => True
 | x :: l, v :: r => SR c x v ∧ CL c l r
 | _, _ => False
def VC (c : Cx) : Bool → List SV → Value → Prop
 | true, l, v => ∃ cs, v = .agg cs.toArray ∧ CL c l cs
 | false, l, v => ∃ x, l = [x] ∧ SR c x v
def TL (c : Cx) : List (Bool × List SV) → List Value → Prop
 | [], [] => True
 | p :: l, v :: r => VC c p.1 p.2 v ∧ TL c l r
 | _, _ => False
def VR (c : Cx) : AV → Value → Prop
 | .c g l, v => VC c g l v
 | .t l, v => ∃ vs, v = .tuple vs.toArray ∧ TL c l vs
def VL (c : Cx) : List AV → List Value → Prop
 | [], [] => True
 | x :: l, v :: r => VR c x v ∧ VL c l r
 | _, _ => False
def Tr (c : Cx) (nt : Nat) (e : Env) (tm : Array Value) : Prop := tm.size = nt ∧ ∀ k v, e.get k = some v → ∃ u, tm[k]? = some u ∧ VR c v u
def Nu (row : List Value) : Prop := ∀ x ∈ row, ∀ z, x ≠ .int .u64 z
def Bl (c : Cx) (b : B) (g : Nat) : Prop := ∃ row tail, Bx c.w g b.ty (row ++ tail) ∧ CL c b.c row ∧ (calm b.c = true → Nu tail)
def lst (p : Lp) : LoopState := if p.st then .ready else if p.pd.isSome then .done else .busy
def LpR (c : Cx) (p : Lp) (g : Nat) : Prop := ∃ rc, c.w.heap[g]? = some (.loop rc) ∧ (p.dd = false → ∃ D tm, rc = { state := lst p, pending := p.pd, fn := p.fn, tmps := tm, params := p.ps.toArray, assign := p.cs, body := p.bd, defers := D } ∧ Tr c p.nt p.e tm)
def Lv (c : Cx) (id : Nat) (b : B) : Prop := c.k id ∧ b.c ≠ []
structure Rl (c : Cx) (wb : World) (h : H) : Prop where
 n : c.n = h.n
 k : ∀ id, c.k id → id < c.n
 q : Q wb c.w
 blk : ∀ id b, h.h.get id = some b → id < h.n ∧ (Lv c id b → Bl c b (c.r id))
 inj : ∀ i j b d, h.h.get i = some b → h.h.get j = some d → Lv c i b → Lv c j d → i ≠ j → c.r i ≠ c.r j
 new : ∀ id b, h.h.get id = some b → Lv c id b → h.bar ≤ id → wb.heap.size ≤ c.r id
 lp : ∀ l p, h.l.get l = some p → l < h.n ∧ (c.k l → LpR c p (c.r l) ∧ (h.bar ≤ l → wb.heap.size ≤ c.r l))
 li : ∀ i j p d, h.l.get i = some p → h.l.get j = some d → c.k i → c.k j → i ≠ j → c.r i ≠ c.r j
structure Ps (w w' : World) : Prop where
 m : ∀ v N, Nm w v N → Nm w' v N
 s : ∀ (g : Nat) (t : TypeId) (cs : Array Value) (fr : Nat × Nat), w.heap[g]? = some (Obj.cells cs t fr) → ∃ cs' : Array Value, w'.heap[g]? = some (Obj.cells cs' t fr) ∧ cs'.size = cs.size
 n : w.heap.size ≤ w'.heap.size
 d : ∀ g : Nat, w.heap[g]? = some (Obj.deferred (some [])) → w'.heap[g]? = some (Obj.deferred (some []))
theorem Ps.refl (w : World) : Ps w w := ⟨fun _ _ h => h, fun _ _ cs _ h => ⟨cs, h, rfl⟩, Nat.le_refl _, fun _ h => h⟩
theorem Ps.trans {a b c : World} (h : Ps a b) (k : Ps b c) : Ps a c := ⟨fun v N x => k.m v N (h.m v N x), fun g t cs fr x => let ⟨d, h1, h2⟩ := h.s g t cs fr x; let ⟨e, h3, h4⟩ := k.s g t d fr h1; ⟨e, h3, h4.trans h2⟩, Nat.le_trans h.n k.n, fun g x => k.d g (h.d g x)⟩
theorem Ps.q {a b : World} (h : Q a b) : Ps a b := ⟨fun _ _ x => x.q h, fun _ _ cs _ x => ⟨cs, (h.heap (Array.getElem?_eq_some_iff.1 x).1).trans x, rfl⟩, h.size, fun _ x => (h.heap (Array.getElem?_eq_some_iff.1 x).1).trans x⟩
structure Xt (c d : Cx) : Prop where
 n : c.n ≤ d.n
 k : ∀ id, c.k id → d.k id
 o : ∀ id, d.k id → c.k id ∨ c.n ≤ id
 r : ∀ id, c.k id → d.r id = c.r id
 p : Ps c.w d.w
 z : d.z = c.z
theorem Xt.refl (c : Cx) : Xt c c := ⟨Nat.le_refl _, fun _ h => h, fun _ h => .inl h, fun _ _ => rfl, Ps.refl _, rfl⟩
theorem Xt.trans {a b c : Cx} (h : Xt a b) (k : Xt b c) : Xt a c := ⟨Nat.le_trans h.n k.n, fun id hi => k.k id (h.k id hi), fun id hi => (k.o id hi).elim (fun q => h.o id q) fun q => .inr (Nat.le_trans h.n q), fun id hi => (k.r id (h.k id hi)).trans (h.r id hi), h.p.trans k.p, k.z.trans h.z⟩
structure Xs (c d : Cx) : Prop where
 k : ∀ id, c.k id → d.k id
 r : ∀ id, c.k id → d.r id = c.r id
 m : ∀ v N, Nm c.w v N → Nm d.w v N
 s : ∀ (g : Nat) (t : TypeId) (cs : Array Value) (fr : Nat × Nat), c.w.heap[g]? = some (Obj.cells cs t fr) → ∃ cs' : Array Value, d.w.heap[g]? = some (Obj.cells cs' t fr) ∧ cs'.size = cs.size
 z : d.z = c.z
theorem Xt.xs {c d : Cx} (x : Xt c d) : Xs c d := ⟨x.k, x.r, x.p.m, x.p.s, x.z⟩
section
variable {c d : Cx}
theorem SR.xs (x : Xs c d) {s : SV} {v : Value} (h : SR c s v) : SR d s v := by
 cases s with
 | p id off => exact ⟨x.k _ h.1, by rw [x.r _ h.1]; exact h.2⟩
 | sl id off len cap =>
   cases cap with
   | some cap => exact ⟨x.k _ h.1, by rw [x.r _ h.1]; exact h.2⟩
   | none =>
     obtain ⟨h1, cap, h2, h3, h4, t, cs, fr, h5, h6⟩ := h;obtain ⟨cs', h7, h8⟩ := x.s _ _ _ _ h5;exact ⟨x.k _ h1, cap, h2, by rw [x.r _ h1]; exact h3, h4, t, cs', fr, by rw [x.r _ h1]; exact h7, by rw [h8, x.z]; exact h6⟩
 | m n => exact x.m _ _ h
 | f fn cs =>
   refine ⟨fun p hp => x.k _ (h.1 p hp), h.2.trans ?_⟩;congr 2;exact List.map_congr_left fun p hp => by unfold ptr; rw [x.r _ (h.1 p hp)]
 | y l => exact ⟨x.k _ h.1, by rw [x.r _ h.1]; exact h.2⟩
 | _ => exact h
theorem CL.xs (x : Xs c d) : ∀ {l : List SV} {r : List Value}, CL c l r → CL d l r
 | [], [], _ => trivial
 | _ :: _, _ :: _, h => ⟨h.1.xs x, CL.xs x h.2⟩
theorem VC.xs (x : Xs c d) {g : Bool} {l : List SV} {v : Value} (h : VC c g l v) : VC d g l v := by
 cases g with
 | true => obtain ⟨cs, h1, h2⟩ := h; exact ⟨cs, h1, h2.xs x⟩
 | false => obtain ⟨s, h1, h2⟩ := h; exact ⟨s, h1, h2.xs x⟩
theorem TL.xs (x : Xs c d) : ∀ {l : List (Bool × List SV)} {r : List Value}, TL c l r → TL d l r
 | [], [], _ => trivial
 | _ :: _, _ :: _, h => ⟨h.1.xs x, TL.xs x h.2⟩
theorem VR.xs (x : Xs c d) {a : AV} {v : Value} (h : VR c a v) : VR d a v := by
 cases a with
 | c g l => exact VC.xs x h
 | t l => obtain ⟨vs, h1, h2⟩ := h; exact ⟨vs, h1, h2.xs x⟩
theorem VL.xs (x : Xs c d) : ∀ {l : List AV} {r : List Value}, VL c l r → VL d l r
 | [], [], _ => trivial
 | _ :: _, _ :: _, h => ⟨h.1.xs x, VL.xs x h.2⟩
theorem Tr.xs (x : Xs c d) {nt : Nat} {e : Env} {tm : Array Value} (h : Tr c nt e tm) : Tr d nt e tm :=
 ⟨h.1, fun k v hk => let ⟨u, h1, h2⟩ := h.2 k v hk; ⟨u, h1, h2.xs x⟩⟩
theorem SR.xt (x : Xt c d) {s : SV} {v : Value} (h : SR c s v) : SR d s v := h.xs x.xs
theorem CL.xt (x : Xt c d) {l : List SV} {r : List Value} (h : CL c l r) : CL d l r := h.xs x.xs
theorem VC.xt (x : Xt c d) {g : Bool} {l : List SV} {v : Value} (h : VC c g l v) : VC d g l v := h.xs x.xs
theorem TL.xt (x : Xt c d) {l : List (Bool × List SV)} {r : List Value} (h : TL c l r) : TL d l r := h.xs x.xs
theorem VR.xt (x : Xt c d) {a : AV} {v : Value} (h : VR c a v) : VR d a v := h.xs x.xs
theorem VL.xt (x : Xt c d) {l : List AV} {r : List Value} (h : VL c l r) : VL d l r := h.xs x.xs
theorem Tr.xt (x : Xt c d) {nt : Nat} {e : Env} {tm : Array Value} (h : Tr c nt e tm) : Tr d nt e tm := h.xs x.xs
theorem CL.len : ∀ {l : List SV} {r : List Value}, CL c l r → r.length = l.length
 | [], [], _ => rfl
 | _ :: _, _ :: _, h => by simp [CL.len h.2]
theorem CL.take (n : Nat) : ∀ {l : List SV} {r : List Value}, CL c l r → CL c (l.take n) (r.take n)
 | [], [], _ => by simp [CL]
 | _ :: _, _ :: _, h => by
   cases n with
   | zero => trivial
   | succ n => exact ⟨h.1, CL.take n h.2⟩
theorem CL.drop (n : Nat) : ∀ {l : List SV} {r : List Value}, CL c l r → CL c (l.drop n) (r.drop n)
 | [], [], _ => by simp [CL]
 | _ :: _, _ :: _, h => by
   cases n with
   | zero => exact h
   | succ n => exact CL.drop n h.2
theorem CL.app : ∀ {l m : List SV} {r s : List Value}, CL c l r → CL c m s → CL c (l ++ m) (r ++ s)
 | [], _, [], _, _, k => k
 | _ :: _, _, _ :: _, _, h, k => ⟨h.1, CL.app h.2 k⟩
theorem CL.at_ : ∀ {l : List SV} {r : List Value} {j : Nat} {x : SV}, CL c l r → l[j]? = some x → ∃ v, r[j]? = some v ∧ SR c x v
 | [], [], _, _, _, h => by simp at h
 | y :: _, v :: _, 0, x, h, hx => by simp at hx; subst hx; exact ⟨v, rfl, h.1⟩
 | _ :: _, _ :: _, j + 1, x, h, hx => by
   obtain ⟨v, h1, h2⟩ := CL.at_ (j := j) h.2 (by simpa using hx);exact ⟨v, by simpa using h1, h2⟩
theorem CL.calm : ∀ {l : List SV} {r : List Value}, CL c l r → calm l = true → Nu r
 | [], [], _, _ => fun x hx => by cases hx
 | s :: l, v :: r, h, k => by
   have k2 : E.calm (s :: l) = cb (aCI s) (E.calm l) false := rfl;rw [k2, aW] at k;split at k
   ·rename_i ks;intro y hy z;rcases List.mem_cons.1 hy with rfl | hy
    ·intro e;subst e;have hs := h.1;cases s with
     | u => cases hs
     | i kk n => cases hs; cases ks
     | sl id off len cap => cases cap <;> simp [SR] at hs
     | m n => obtain ⟨A, c, ws, h1, -⟩ := hs; cases h1
     | s l => obtain ⟨_, h1, -⟩ := hs; cases h1
     | p id off => cases hs.2
     | f fn cs => cases hs.2
     | y l => cases hs.2
     | _ => cases hs
    ·exact CL.calm h.2 k y hy z
   ·cases k
theorem Bl.xs (x : Xs c d) {b : B} {g : Nat} (hh : d.w.heap[g]? = c.w.heap[g]?) (h : Bl c b g) : Bl d b g := by
 obtain ⟨row, tail, h1, h2, h3⟩ := h;exact ⟨row, tail, hh.trans h1, h2.xs x, h3⟩
theorem Bl.xt (x : Xt c d) {b : B} {g : Nat} (hh : d.w.heap[g]? = c.w.heap[g]?) (h : Bl c b g) : Bl d b g := h.xs x.xs hh
theorem Bl.lt {b : B} {g : Nat} (h : Bl c b g) : g < c.w.heap.size := by
 obtain ⟨row, tail, h1, -⟩ := h; exact h1.lt
theorem LpR.lt {p : Lp} {g : Nat} (h : LpR c p g) : g < c.w.heap.size := by
 obtain ⟨rc, h1, -⟩ := h;exact (Array.getElem?_eq_some_iff.1 h1).1
theorem LpR.xs (x : Xs c d) {p : Lp} {g : Nat} (hh : d.w.heap[g]? = c.w.heap[g]?) (h : LpR c p g) : LpR d p g := by
 obtain ⟨rc, h1, h2⟩ := h;exact ⟨rc, hh.trans h1, fun hd => let ⟨D, tm, h3, h4⟩ := h2 hd; ⟨D, tm, h3, h4.xs x⟩⟩
theorem LpR.xt (x : Xt c d) {p : Lp} {g : Nat} (hh : d.w.heap[g]? = c.w.heap[g]?) (h : LpR c p g) : LpR d p g := h.xs x.xs hh
theorem aB4 {b : B} {p : Lp} {g k : Nat} (h : Bl c b g) (hl : LpR c p k) : k ≠ g := by
 intro e;subst e;obtain ⟨row, tail, h1, -⟩ := h;obtain ⟨rc, h2, -⟩ := hl;rw [h1] at h2;cases h2
theorem Ps.one {w w' : World} {g : Nat} {t : TypeId} {row : List Value} (hb : Bx w g t row) (hn : Nu row) (hk : ∀ k, k ≠ g → w'.heap[k]? = w.heap[k]?) (hs : w'.heap.size = w.heap.size) {row' : List Value} (hb' : Bx w' g t row') (hl : row'.length = row.length) : Ps w w' := by
 refine ⟨fun v N h => ?_, fun k t2 cs fr hc => ?_, by omega, fun k hc => ?_⟩
 rotate_left
 rotate_left
 ·have hkg : k ≠ g := fun e => by
   subst e;unfold Bx at hb;rw [hb] at hc;cases hc
  exact (hk k hkg).trans hc
 rotate_left
 ·by_cases hkg : k = g
  ·subst hkg;unfold Bx at hb;rw [hb] at hc;injection hc with hc;injection hc with h1 h2 h3;subst h1; subst h2; subst h3;exact ⟨_, hb', by simpa using hl⟩
  ·exact ⟨cs, (hk k hkg).trans hc, rfl⟩
 obtain ⟨A, c, ws, h1, h2, h3, h4, h5⟩ := h;refine ⟨A, c, ws, h1, h2, fun hw => ?_, h4, h5⟩;obtain ⟨b, o, e, hlt, hc⟩ := h3 hw;have hne : b ≠ g := by
  intro e;have h2 := hc 0 _ (List.getElem?_eq_getElem hw);unfold Bx at hb;rw [← e] at hb;have h3 : row[o + 0]? = some (.int .u64 ((ws[0] : Nat) : Int)) := (by simpa [World.cell?, hb] using h2);exact hn _ (List.mem_of_getElem? h3) _ rfl
 have he := hk _ hne;exact ⟨b, o, e, by omega, fun j u hu => (kW (p := ⟨b, o + j, none⟩) he).trans (hc j u hu)⟩
end
end Go.Proofs.YtcplpghmbahjdaaGreatDoor.E
namespace Go.Proofs.YtcplpghmbahjdaaGreatDoor.E
open Go Go.RowKit
open Ma Me K
def Cx.nw (c : Cx) (o : Obj) : Cx := ⟨c.n + 1, fun id => c.k id ∨ id = c.n, fun id => if id = c.n then c.w.heap.size else c.r id, c.w.alloc o, c.z⟩
section
variable {c : Cx} {wb : World} {h : H}
theorem aC7 (hk : ∀ id, c.k id → id < c.n) (o : Obj) : Xt c (c.nw o) := ⟨Nat.le_succ _, fun id hi => .inl hi, fun id hi => hi.elim .inl fun q => .inr (by omega), fun id hi => if_neg (by have := hk id hi; omega), Ps.q ((Q.refl _).alloc o), rfl⟩
theorem xP (o : Obj) : (c.nw o).r c.n = c.w.heap.size := if_pos rfl
theorem jS (o : Obj) {id : Nat} (hi : id < c.n) : (c.nw o).r id = c.r id := if_neg (by omega)
theorem Rl.size (hr : Rl c wb h) : wb.heap.size ≤ c.w.heap.size := hr.q.size
theorem Rl.nw (hr : Rl c wb h) (b : B) {row tail : List Value} (hb : CL c b.c row) (ht : calm b.c = true → Nu tail) :
  Rl (c.nw (.cells (row ++ tail).toArray b.ty)) wb ⟨h.h.set b h.n, Nat.succ h.n, h.bar, h.l⟩ := by
 have hn := hr.n;have hsz := hr.size;have X := aC7 (c := c) hr.k (.cells (row ++ tail).toArray b.ty);have hold : ∀ k, k < c.w.heap.size → (c.nw (.cells (row ++ tail).toArray b.ty)).w.heap[k]? = c.w.heap[k]? := fun k hk => Below.heap_alloc _ _ k hk;have hnew : Bl (c.nw (.cells (row ++ tail).toArray b.ty)) b ((c.nw (.cells (row ++ tail).toArray b.ty)).r h.n) := by
  rw [← hn, xP];exact ⟨row, tail, Bx.new _ _ _, hb.xt X, ht⟩
 have key : ∀ id b', (T.set b h.h h.n).get id = some b' → (id = h.n ∧ b' = b) ∨ (id < h.n ∧ h.h.get id = some b') := fun id b' hg => by
  rcases T.get_set hg with ⟨h1, h2⟩ | ⟨h1, h2⟩
  ·exact .inl ⟨h1, h2⟩
  ·exact .inr ⟨(hr.blk id b' h2).1, h2⟩
 have lv : ∀ {id b'}, id < h.n → Lv (c.nw (.cells (row ++ tail).toArray b.ty)) id b' → Lv c id b' := fun hi q => ⟨q.1.elim (fun q => q) fun q => by omega, q.2⟩
 have kk : ∀ {id}, id < h.n → (c.nw (.cells (row ++ tail).toArray b.ty)).k id → c.k id := fun hi q => q.elim (fun q => q) fun q => by omega
 refine ⟨by show c.n + 1 = h.n + 1; rw [hn], fun id q => by show id < c.n + 1; exact q.elim (fun q => Nat.lt_succ_of_lt (hr.k id q)) fun q => by omega, hr.q.alloc _, fun id b' hg => ?_, fun i j b' d hi hj hb' hd hij => ?_, fun id b' hg hc hbar => ?_, fun l p hl => ?_, fun i j p d hi hj ki kj hij => ?_⟩
 ·rcases key id b' hg with ⟨rfl, rfl⟩ | ⟨h1, h2⟩
  ·exact ⟨Nat.lt_succ_self _, fun _ => hnew⟩
  ·refine ⟨Nat.lt_succ_of_lt h1, fun hc => ?_⟩;rw [jS _ (by omega)];have := (hr.blk id b' h2).2 (lv h1 hc);exact this.xt X (hold _ this.lt)
 ·rcases key i b' hi with ⟨rfl, rfl⟩ | ⟨h1, h2⟩
  ·rcases key j d hj with ⟨rfl, rfl⟩ | ⟨h3, h4⟩
   ·exact absurd rfl hij
   ·have := ((hr.blk j d h4).2 (lv h3 hd)).lt;rw [← hn, xP, jS _ (by omega)];omega
  ·have h5 := ((hr.blk i b' h2).2 (lv h1 hb')).lt;rcases key j d hj with ⟨rfl, rfl⟩ | ⟨h3, h4⟩
   ·rw [jS _ (by omega), ← hn, xP];omega
   ·rw [jS _ (by omega), jS _ (by omega)];exact hr.inj i j b' d h2 h4 (lv h1 hb') (lv h3 hd) hij
 ·rcases key id b' hg with ⟨rfl, rfl⟩ | ⟨h1, h2⟩
  ·rw [← hn, xP]; exact hsz
  ·rw [jS _ (by omega)]; exact hr.new id b' h2 (lv h1 hc) hbar
 ·obtain ⟨h1, h23⟩ := hr.lp l p hl;rw [jS _ (by omega)];exact ⟨Nat.lt_succ_of_lt h1, fun q => let ⟨h2, h3⟩ := h23 (kk h1 q); ⟨h2.xt X (hold _ h2.lt), h3⟩⟩
 ·rw [jS _ (by have := (hr.lp i p hi).1; omega), jS _ (by have := (hr.lp j d hj).1; omega)];exact hr.li i j p d hi hj (kk (hr.lp i p hi).1 ki) (kk (hr.lp j d hj).1 kj) hij
def Cx.drew (c : Cx) : Cx := ⟨c.n, c.k, c.r, c.w.drew, c.z⟩
theorem oP : Xt c c.drew := ⟨Nat.le_refl _, fun _ h => h, fun _ h => .inl h, fun _ _ => rfl, Ps.q (Q.refl _).drew, rfl⟩
theorem Rl.drew (hr : Rl c wb h) : Rl c.drew wb h :=
 ⟨hr.n, hr.k, hr.q.drew, fun id b hg => ⟨(hr.blk id b hg).1, fun hc => ((hr.blk id b hg).2 hc).xt oP rfl⟩, hr.inj, hr.new, fun l p hl => ⟨(hr.lp l p hl).1, fun q => ⟨((hr.lp l p hl).2 q).1.xt oP rfl, ((hr.lp l p hl).2 q).2⟩⟩, hr.li⟩
theorem oneCell {s : SV} {v : Value} (h : SR c s v) : v.oneCell' = true := by
 cases s with
 | u => cases h
 | s l => obtain ⟨_, rfl, -⟩ := h; rfl
 | p id off => rw [h.2]; rfl
 | sl id off len cap =>
   cases cap with
   | some cap => rw [h.2]; rfl
   | none => obtain ⟨_, _, _, rfl, -⟩ := h; rfl
 | m n => obtain ⟨_, _, _, rfl, -⟩ := h; rfl
 | f fn cs => rw [h.2]; rfl
 | y l => rw [h.2]; rfl
 | _ => rw [h]; rfl
theorem uM : ∀ {l : List SV} {r : List Value}, CL c l r → ∀ v ∈ r, v.oneCell' = true
 | [], [], _, _, hv => by cases hv
 | _ :: _, _ :: _, h, v, hv => by
   rcases List.mem_cons.1 hv with rfl | hv
   ·exact oneCell h.1
   ·exact uM h.2 v hv
def Cx.row (c : Cx) (g : Nat) (cs : List Value) : Cx := ⟨c.n, c.k, c.r, c.w.setRow g cs.toArray, c.z⟩
theorem Rl.row (hr : Rl c wb h) {id : Nat} {b b' : B} (hg : h.h.get id = some b) (hlv : Lv c id b) (hbar : h.bar ≤ id) (hty : b'.ty = b.ty) (hcalm : calm b.c = true) {row tail row' tail' : List Value} (hb : Bx c.w (c.r id) b.ty (row ++ tail)) (hc : CL c b.c row) (ht : Nu tail) (hc' : CL c b'.c row') (ht' : Nu tail') (hl : (row' ++ tail').length = (row ++ tail).length) :
  Xt c (c.row (c.r id) (row' ++ tail')) ∧ Rl (c.row (c.r id) (row' ++ tail')) wb ⟨h.h.set b' id, h.n, h.bar, h.l⟩ := by
 have hnu : Nu (row ++ tail) := fun x hx => by
  rcases List.mem_append.1 hx with hx | hx
  ·exact hc.calm hcalm x hx
  ·exact ht x hx
 have hoth : ∀ k, k ≠ c.r id → (c.row (c.r id) (row' ++ tail')).w.heap[k]? = c.w.heap[k]? := fun k hk => setRow_other _ _ _ _ hk;have X : Xt c (c.row (c.r id) (row' ++ tail')) := ⟨Nat.le_refl _, fun _ h => h, fun _ h => .inl h, fun _ _ => rfl, Ps.one hb hnu hoth (size_setRow _ _ _) (setRow_heap _ _ _ _ _ _ hb) hl, rfl⟩
 have hB0 : Bl c b (c.r id) := (hr.blk id b hg).2 hlv;have hnew : Bl (c.row (c.r id) (row' ++ tail')) b' (c.r id) := ⟨row', tail', by rw [hty]; exact setRow_heap _ _ _ _ _ _ hb, hc'.xt X, fun _ => ht'⟩
 have key : ∀ j b2, (T.set b' h.h id).get j = some b2 → (j = id ∧ b2 = b') ∨ (j ≠ id ∧ h.h.get j = some b2) := fun j b2 hg => T.get_set hg;refine ⟨X, hr.n, hr.k, below_setRow hr.q (hr.new id b hg hlv hbar) _, fun j b2 hj => ?_, fun i j x d hi hj hx hd hij => ?_, fun j b2 hj h1 h2 => ?_, fun l p hl => ?_, hr.li⟩
 ·rcases key j b2 hj with ⟨rfl, rfl⟩ | ⟨h1, h2⟩
  ·exact ⟨(hr.blk _ b hg).1, fun _ => hnew⟩
  ·refine ⟨(hr.blk j b2 h2).1, fun hc => ?_⟩;have := (hr.blk j b2 h2).2 hc;exact this.xt X (hoth _ (hr.inj j id b2 b h2 hg hc hlv h1))
 ·rcases key i x hi with ⟨rfl, rfl⟩ | ⟨h1, h2⟩
  ·rcases key j d hj with ⟨rfl, rfl⟩ | ⟨h3, h4⟩
   ·exact absurd rfl hij
   ·exact hr.inj _ j b d hg h4 hlv hd hij
  ·rcases key j d hj with ⟨rfl, rfl⟩ | ⟨h3, h4⟩
   ·exact hr.inj i _ x b h2 hg hx hlv hij
   ·exact hr.inj i j x d h2 h4 hx hd hij
 ·rcases key j b2 hj with ⟨rfl, rfl⟩ | ⟨h3, h4⟩
  ·exact hr.new _ b hg hlv hbar
  ·exact hr.new j b2 h4 h1 h2
 ·obtain ⟨h1, h23⟩ := hr.lp l p hl;exact ⟨h1, fun q => let ⟨h2, h3⟩ := h23 q; ⟨h2.xt X (hoth _ (aB4 hB0 h2)), h3⟩⟩
theorem aC8 (hr : Rl c wb h) {id off n : Nat} {l : List SV} (hkn : c.k id) (hd : rd h id off n = some l) :
  ∃ vs, CL c l vs ∧ vs.length = n ∧ ∀ j v, vs[j]? = some v → c.w.cell? ⟨c.r id, off + j, none⟩ = some v := by
 unfold rd at hd;obtain ⟨b, hg, ht⟩ := aA.1 hd;rw [vU] at ht;obtain ⟨h1, rfl⟩ := pU.1 ht;by_cases hne : b.c = []
 ·rw [hne] at h1;simp at h1;subst h1;exact ⟨[], by simp [CL], rfl, fun j v hv => by simp at hv⟩
 ·obtain ⟨row, tail, hb, hc, -⟩ := (hr.blk id b hg).2 ⟨hkn, hne⟩;refine ⟨(row.drop off).take n, (hc.drop off).take n, ?_, fun j v hv => hb.cell _ ?_⟩
  ·have := (hc.drop off).len;rw [List.length_take];omega
  ·rw [List.getElem?_take] at hv;split at hv
   ·rw [List.getElem?_drop] at hv;rw [List.getElem?_append_left (List.getElem?_eq_some_iff.1 hv).1];exact hv
   ·cases hv
theorem add0 (g o j : Nat) : (⟨g, o, none⟩ : Addr).add j = ⟨g, o + j, none⟩ := gT g o j
theorem aGN (hr : Rl c wb h) (P : Program) {id off : Nat} {l : List SV} {h' : H} (hkn : c.k id) (hw : wr h id off l = some h') {vs : List Value} (hv : CL c l vs) (hl : l ≠ []) :
  ∃ c', Xt c c' ∧ Rl c' wb h' ∧ (storeCells ⟨c.r id, off, none⟩ vs).run P c.w = .ok () c'.w ∧ h'.n = h.n ∧ h'.bar = h.bar := by
 unfold wr at hw;obtain ⟨h1, h2⟩ := aD.1 hw;obtain ⟨b, hg, h3⟩ := aA.1 h2;obtain ⟨nc, h4, h5⟩ := aA.1 h3;obtain ⟨h6, h7⟩ := aD.1 h5;injection h7 with h7;obtain ⟨h8, rfl⟩ := rM.1 h4;have hvl := hv.len;have hne : b.c ≠ [] := by
  intro e;rw [e] at h8;simp at h8;exact hl h8.2
 obtain ⟨row, tail, hb, hc, ht⟩ := (hr.blk id b hg).2 ⟨hkn, hne⟩;have hrl := hc.len;have hst := run_storeCells_at (P := P) (c.r id) off b.ty vs 0 (row ++ tail).toArray c.w hb (by simp; omega) (uM hv);have e : ((row ++ tail).toArray.toList.take (off + 0) ++ vs ++ (row ++ tail).toArray.toList.drop (off + 0 + vs.length)) = (row.take off ++ vs ++ row.drop (off + vs.length)) ++ tail := by
  simp only [Nat.add_zero];rw [List.take_append_of_le_length (by omega), List.drop_append_of_le_length (by omega)];simp
 rw [e] at hst;have hc' : CL c (b.c.take off ++ l ++ b.c.drop (off + l.length)) (row.take off ++ vs ++ row.drop (off + vs.length)) := by
  rw [hvl];exact ((hc.take off).app hv).app (hc.drop _)
 have hbar := fQ.1 h1;obtain ⟨X, R⟩ := hr.row (b' := ⟨b.ty, b.c.take off ++ l ++ b.c.drop (off + l.length)⟩) hg ⟨hkn, hne⟩ hbar rfl h6 hb hc (ht h6) hc' (ht h6) (by simp; omega);rw [← h7];exact ⟨_, X, R, hst, rfl, rfl⟩
end
end Go.Proofs.YtcplpghmbahjdaaGreatDoor.E
namespace Go.Proofs.YtcplpghmbahjdaaGreatDoor.E
open Go Go.RowKit
open Ma Me K
section
variable {c : Cx} {α : Type}
theorem aA0 {l : List SV} {k : SV → Option α} {y : α} : hd1 l k = some y ↔ ∃ x, l = [x] ∧ k x = some y := by
 match l with
 | [] => exact ⟨fun h => (by cases h), fun ⟨x, h, _⟩ => (by cases h)⟩
 | [x] => exact ⟨fun h => ⟨x, rfl, h⟩, fun ⟨z, h, k⟩ => by injection h with h _; subst h; exact k⟩
 | _ :: _ :: _ => exact ⟨fun h => (by cases h), fun ⟨x, h, _⟩ => (by cases h)⟩
theorem aL {v : AV} {k : SV → Option α} {y : α} : one v k = some y ↔ ∃ x, v = sc x ∧ k x = some y := by
 cases v with
 | c g l =>
   cases g with
   | true => exact ⟨fun h => (by cases h), fun ⟨x, h, _⟩ => (by cases h)⟩
   | false =>
     show hd1 l k = some y ↔ _;rw [aA0];exact ⟨fun ⟨x, h, hk⟩ => ⟨x, by rw [h]; rfl, hk⟩, fun ⟨x, h, hk⟩ => ⟨x, by injection h, hk⟩⟩
 | t l => exact ⟨fun h => (by cases h), fun ⟨x, h, _⟩ => (by cases h)⟩
theorem pV {v : AV} {k : List SV → Option α} {y : α} : agg v k = some y ↔ ∃ l, v = .c true l ∧ k l = some y := by
 cases v with
 | c g l =>
   cases g with
   | true => exact ⟨fun h => ⟨l, rfl, h⟩, fun ⟨x, h, hk⟩ => by injection h with _ h; subst h; exact hk⟩
   | false => exact ⟨fun h => (by cases h), fun ⟨x, h, _⟩ => (by cases h)⟩
 | t l => exact ⟨fun h => (by cases h), fun ⟨x, h, _⟩ => (by cases h)⟩
theorem pW {v : AV} {k : List SV → Option α} {y : α} : cells v k = some y ↔ ∃ g l, v = .c g l ∧ k l = some y := by
 cases v with
 | c g l => exact ⟨fun h => ⟨g, l, rfl, h⟩, fun ⟨g2, x, h, hk⟩ => by injection h with _ h; subst h; exact hk⟩
 | t l => exact ⟨fun h => (by cases h), fun ⟨_, x, h, _⟩ => (by cases h)⟩
theorem aH {s : SV} {u : Value} : VR c (sc s) u ↔ SR c s u := ⟨fun ⟨x, h, hx⟩ => by injection h with h _; subst h; exact hx, fun h => ⟨s, rfl, h⟩⟩
theorem nC : VR c un undef := ⟨[], rfl, trivial⟩
theorem cells_ok {g : Bool} {l : List SV} {u : Value} (h : VR c (.c g l) u) : CL c l u.cells.toList := by
 cases g with
 | true => obtain ⟨cs, rfl, hc⟩ := h; exact hc
 | false =>
   obtain ⟨x, rfl, hx⟩ := h;have h1 := oneCell hx;have e : u.cells = #[u] := by cases u <;> first | rfl | cases h1
   rw [e];exact ⟨hx, trivial⟩
theorem aHJ {x : SV} {v : Value} (h : aCH x v = true) : SR c x v := by
 unfold aCH at h;split at h
 ·simp at h; subst h; rfl
 ·rename_i s;exact ⟨s, rfl, by unfold bytes; rw [show s.data.toList = [] from by simpa using h]; rfl⟩
 ·rfl
 ·exact Nm.zero _ _
 ·rfl
 ·rfl
 ·rfl
 ·cases h
theorem lC : ∀ {l : List SV} {r : List Value}, zok l r = true → CL c l r
 | [], [], _ => trivial
 | [], _ :: _, h => by cases h
 | _ :: _, [], h => by cases h
 | x :: l, v :: r, h => by
   have h2 : (aCH x v && zok l r) = true := h;obtain ⟨h3, h4⟩ := (Bool.and_eq_true _ _).mp h2;exact ⟨aHJ h3, lC h4⟩
theorem aI9 {v : Value} (h : isF v = true) : v = .bool false := by
 unfold isF at h;split at h
 ·rfl
 ·cases h
theorem aEu {v : Value} (h : isZ v = true) : v = .slice none 0 0 := by
 unfold isZ at h;split at h
 ·rfl
 ·cases h
theorem aJa {v : Value} {a : AV} (h : ofV v = some a) : VR c a v := by
 unfold ofV at h;split at h
 case h_7 cs =>
  unfold ofA at h;split at h
  ·rename_i x y z hl;obtain ⟨h1, h2⟩ := aD.1 h;obtain ⟨h3, h4⟩ := aD.1 h2;obtain ⟨h5, h6⟩ := aD.1 h4;injection h6 with h6;subst h6;rw [aI9 h1, aEu h3, aEu h5] at hl;refine ⟨cs.toList, by rw [Array.toArray_toList], ?_⟩;rw [hl];exact ⟨rfl, Nm.zero _ _, Nm.zero _ _, trivial⟩
  ·cases h
 case h_8 vs =>
  split at h
  ·rename_i hl;injection h with h;subst h;exact ⟨[], by rw [← hl, Array.toArray_toList], trivial⟩
  ·cases h
 all_goals first
  | (injection h with h; subst h; first
     | exact aH.2 rfl
     | exact aH.2 ⟨_, rfl, rfl⟩)
  | cases h
end
section
variable {F : Cf} {c : Cx} {wb : World} {h h' : H} {nt : Nat} {e : Env} {a : Act} {o : Oper} {v : AV}
theorem bE (ht : Tr c nt e a.tmps) {x : Operand} (hx : ev e x = some v) : VR c v (a.eval x) := by
 cases x with
 | tmp t =>
   obtain ⟨u, h1, h2⟩ := ht.2 t v hx;show VR c v (a.tmps.getD t undef);rw [Array.getD_eq_getD_getElem?, h1];exact h2
 | const k => exact aJa hx
 | global g => cases hx
 | func f =>
   injection hx with hx;subst hx;exact aH.2 ⟨fun p hp => (by cases hp), rfl⟩
theorem rO (ht : Tr c nt e a.tmps) : ∀ {l : List Operand} {vs : List AV}, evL e l = some vs → VL c vs (l.map a.eval)
 | [], vs, hx => by injection hx with hx; subst hx; trivial
 | x :: l, vs, hx => by
   have e1 : evL e (x :: l) = ob (ev e x) fun v => ob (evL e l) fun r => some (v :: r) := rfl;rw [e1] at hx;obtain ⟨v, h1, h2⟩ := aA.1 hx;obtain ⟨r, h3, h4⟩ := aA.1 h2;injection h4 with h4;subst h4;exact ⟨bE ht h1, rO ht h3⟩
structure Ty (P : Program) (t : Nat) (i : TI) : Prop where
 ex : ∃ inf d z, P.info? t = some inf ∧ P.underlying t = some d ∧ i.d = dk d ∧ i.sz = inf.size ∧ i.by_ = inf.bytes ∧ inf.zero = some z ∧ zok i.ze z.cells.toList = true ∧ z.cells.toList.length = inf.size
theorem aR {t : Nat} {i : TI} (h : F.ti t = some i) : Ty F.P t i := by
 unfold Cf.ti at h;split at h
 ·rename_i inf d hi hd;split at h
  ·rename_i z hz;obtain ⟨h1, h2⟩ := aD.1 h;obtain ⟨h3, h4⟩ := (Bool.and_eq_true _ _).mp h1;injection h2 with h2;subst h2;exact ⟨inf, d, z, hi, hd, rfl, rfl, rfl, hz, h3, aJ.1 h4⟩
  ·cases h
 ·cases h
theorem nD {t n : Nat} (h : sz F t = some n) : ∃ i, F.ti t = some i ∧ i.sz = n := by
 obtain ⟨i, h1, h2⟩ := aA.1 h;injection h2 with h2;exact ⟨i, h1, h2⟩
theorem gM {P : Program} {t : Nat} {i : TI} (h : Ty P t i) (w : World) : (sizeOf t).run P w = .ok i.sz w := by
 obtain ⟨inf, d, z, h1, h2, h3, h4, h5, h6, h7, h8⟩ := h.ex;simp [sizeOf, typeInfo, h1, h4]
theorem xQ {P : Program} {t : Nat} {i : TI} (h : Ty P t i) (w : World) : (isAgg t).run P w = .ok i.d.ag w := by
 obtain ⟨inf, d, z, h1, h2, h3, h4, h5, h6, h7, h8⟩ := h.ex;unfold isAgg;rw [Sem.run_bind, run_underlying h2 w, h3];cases d <;> rfl
theorem aF1 {P : Program} {t : Nat} {i : TI} (h : Ty P t i) (w : World) : ∃ z, (zeroValue t).run P w = .ok z w ∧ CL c i.ze z.cells.toList ∧ z.cells.toList.length = i.sz := by
 obtain ⟨inf, d, z, h1, h2, h3, h4, h5, h6, h7, h8⟩ := h.ex;exact ⟨z, by simp [zeroValue, typeInfo, h1, h6], lC h7, by rw [h8, h4]⟩
def OpR (P : Program) (ρ : Operand → Value) (o : Oper) (w : World) (u : Value) (w' : World) : Prop :=
 (execOp ρ o).run P w = .ok (.value u) w' ∨ ((execOp ρ o).run P w = .ok .skip w' ∧ u = undef)
def Po (c : Cx) (wb : World) (h' : H) (v : AV) (u : Value) (w' : World) : Prop := ∃ d, d.w = w' ∧ Xt c d ∧ Rl d wb h' ∧ VR d v u
theorem OpR.vl {P : Program} {ρ : Operand → Value} {w w' : World} {u : Value} {s : Sem Value} (he : execOp ρ o = (do pure (Next.value (← s)))) (hs : s.run P w = .ok u w') : OpR P ρ o w u w' :=
 .inl (by rw [he, Sem.run_bind, hs]; rfl)
theorem OpR.sk {P : Program} {ρ : Operand → Value} {w w' : World} {s : Sem Unit} (he : execOp ρ o = (do s; pure Next.skip)) (hs : s.run P w = .ok () w') : OpR P ρ o w undef w' :=
 .inr ⟨by rw [he, Sem.run_bind, hs]; rfl, rfl⟩
theorem Po.same {u : Value} (hr : Rl c wb h) (hv : VR c v u) : Po c wb h v u c.w := ⟨c, rfl, Xt.refl c, hr, hv⟩
theorem vX (hr : Rl c wb h) (b : B) {A : Array Value} (hb : CL c b.c A.toList) :
  ∃ d, d.w = c.w.alloc (.cells A b.ty) ∧ Xt c d ∧ Rl d wb ⟨h.h.set b h.n, Nat.succ h.n, h.bar, h.l⟩ ∧ d.r h.n = c.w.heap.size ∧ d.k h.n := by
 have := hr.nw b (tail := []) hb (fun _ x hx => by cases hx);rw [List.append_nil, Array.toArray_toList] at this;exact ⟨_, rfl, aC7 hr.k _, this, by rw [← hr.n]; exact xP _, by rw [← hr.n]; exact .inr rfl⟩
theorem aHK (hr : Rl c wb h) (b : B) {A : Array Value} {row tail : List Value} (hb : CL c b.c row) (ht : calm b.c = true → Nu tail) (hA : A.toList = row ++ tail) :
  ∃ d, d.w = c.w.alloc (.cells A b.ty) ∧ Xt c d ∧ Rl d wb ⟨h.h.set b h.n, Nat.succ h.n, h.bar, h.l⟩ ∧ d.r h.n = c.w.heap.size ∧ d.k h.n := by
 have := hr.nw b hb ht;rw [← hA, Array.toArray_toList] at this;exact ⟨_, rfl, aC7 hr.k _, this, by rw [← hr.n]; exact xP _, by rw [← hr.n]; exact .inr rfl⟩
theorem aEv {x : Operand} (hr : Rl c wb h) (ht : Tr c nt e a.tmps) (ho : o.op = .move x ∨ o.op = .assign x) (hx : (ob (ev e x) fun v => some (v, h)) = some (v, h')) : ∃ u w', OpR F.P a.eval o c.w u w' ∧ Po c wb h' v u w' := by
 obtain ⟨v1, h1, h2⟩ := aA.1 hx;injection h2 with h2;injection h2 with h2 h3;subst h2; subst h3;refine ⟨a.eval x, c.w, .inl ?_, Po.same hr (bE ht h1)⟩;unfold execOp;rcases ho with ho | ho <;> rw [ho] <;> rfl
theorem aJb {k x y : Operand} (hr : Rl c wb h) (ht : Tr c nt e a.tmps) (ho : o.op = .pick k x y) (hx : sP e h k x y = some (v, h')) : ∃ u w', OpR F.P a.eval o c.w u w' ∧ Po c wb h' v u w' := by
 obtain ⟨v1, h1, h2⟩ := aA.1 hx;obtain ⟨s, rfl, h3⟩ := aL.1 h2;split at h3
 ·rename_i b;obtain ⟨v2, h4, h5⟩ := aA.1 h3;injection h5 with h5;injection h5 with h5 h6;subst h5; subst h6;have hk : a.eval k = .bool b := aH.1 (bE ht h1);refine ⟨if b = true then a.eval x else a.eval y, c.w, .inl ?_, Po.same hr ?_⟩
  ·unfold execOp;rw [ho];simp only [hk, asBool];cases b <;> rfl
  ·rw [aW] at h4;split at h4 <;> rename_i hb
   ·rw [if_pos hb]; exact bE ht h4
   ·rw [if_neg hb]; exact bE ht h4
 ·cases h3
theorem aHL {t : Nat} (hr : Rl c wb h) (ho : o.op = .alloc t) (hx : uW F h t = some (v, h')) : ∃ u w', OpR F.P a.eval o c.w u w' ∧ Po c wb h' v u w' := by
 obtain ⟨i, h1, h2⟩ := aA.1 hx;unfold H.nw at h2;rw [aV] at h2;injection h2 with h2;injection h2 with h2 h3;subst h2; subst h3;obtain ⟨z, hz, hc, -⟩ := aF1 (c := c) (aR h1) c.w;obtain ⟨d, hw, X, R, hd, hlt⟩ := vX hr ⟨t, i.ze⟩ hc;refine ⟨.pointer (some ⟨c.w.heap.size, 0, none⟩), _, OpR.vl (s := Instr.alloc t true (.tuple #[])) (by unfold execOp; rw [ho]) ?_, d, hw, X, R, aH.2 ⟨hlt, by rw [hd]⟩⟩;simp only [Instr.alloc, Sem.run_bind, hz, Result.andThen_ok, newVar, newRow, run_newObj, Sem.run_pure];rfl
theorem aKp {t : Nat} {x : Operand} (hr : Rl c wb h) (ht : Tr c nt e a.tmps) (ho : o.op = .box t x) (hx : aAs e h t x = some (v, h')) : ∃ u w', OpR F.P a.eval o c.w u w' ∧ Po c wb h' v u w' := by
 obtain ⟨v1, h1, h2⟩ := aA.1 hx;obtain ⟨g, l, rfl, h3⟩ := pW.1 h2;unfold H.nw at h3;rw [aV] at h3;injection h3 with h3;injection h3 with h3 h4;subst h3; subst h4;obtain ⟨d, hw, X, R, hd, hlt⟩ := vX hr ⟨t, l⟩ (cells_ok (bE ht h1));refine ⟨.pointer (some ⟨c.w.heap.size, 0, none⟩), _, OpR.vl (s := Instr.box t (a.eval x)) (by unfold execOp; rw [ho]) ?_, d, hw, X, R, aH.2 ⟨hlt, by rw [hd]⟩⟩;simp only [Instr.box, Sem.run_bind, Result.andThen_ok, newVar, newRow, run_newObj, Sem.run_pure];rfl
theorem aC9 {g : Bool} {l : List SV} {vs : List Value} (h : av g l = some v) (hc : CL c l vs) : ∃ u, VR c v u ∧ (g = true → u = .agg vs.toArray) ∧ (g = false → vs = [u]) := by
 unfold av at h;rw [aW] at h;split at h
 ·injection h with h;subst h;rename_i hg;exact ⟨.agg vs.toArray, ⟨vs, rfl, hc⟩, fun _ => rfl, fun h2 => by rw [hg] at h2; cases h2⟩
 ·rename_i hg;obtain ⟨x, rfl, h2⟩ := aA0.1 h;injection h2 with h2;subst h2
  match vs, hc with
  | [u], hc => exact ⟨u, aH.2 hc.1, fun h3 => absurd h3 hg, fun _ => rfl⟩
  | _ :: _ :: _, hc => exact hc.2.elim
theorem aB5 {P : Program} {t : Nat} {i : TI} (hi : Ty P t i) {g off : Nat} {vs : List Value} {w : World} {u : Value} (hl : vs.length = i.sz) (hc : ∀ j v, vs[j]? = some v → w.cell? ⟨g, off + j, none⟩ = some v)
  (h1 : i.d.ag = true → u = .agg vs.toArray) (h2 : i.d.ag = false → vs = [u]) : (loadVar t ⟨g, off, none⟩).run P w = .ok u w := by
 unfold loadVar;rw [Sem.run_bind, xQ hi w];cases hg : i.d.ag with
 | true =>
   rw [h1 hg];simp only [Result.andThen_ok, if_true];rw [Sem.run_bind, gM hi w, Result.andThen_ok, Sem.run_bind, ← hl, run_loadCells_list (P := P) w ⟨g, off, none⟩ vs (fun j v hv => by rw [add0]; exact hc j v hv)];rfl
 | false =>
   have h3 := h2 hg;subst h3;have h4 := hc 0 u rfl;simp only [Result.andThen_ok, Bool.false_eq_true, if_false, run_load];rw [show (⟨g, off, none⟩ : Addr) = ⟨g, off + 0, none⟩ from rfl, h4]
theorem o_load {t : Nat} {x : Operand} (hr : Rl c wb h) (ht : Tr c nt e a.tmps) (ho : o.op = .load t x) (hx : uX F e h t x = some (v, h')) : ∃ u w', OpR F.P a.eval o c.w u w' ∧ Po c wb h' v u w' := by
 obtain ⟨i, h1, h2⟩ := aA.1 hx;obtain ⟨v1, h3, h4⟩ := aA.1 h2;obtain ⟨s, rfl, h5⟩ := aL.1 h4;split at h5
 ·rename_i id off;obtain ⟨l, h6, h7⟩ := aA.1 h5;obtain ⟨v2, h8, h9⟩ := aA.1 h7;injection h9 with h9;injection h9 with h9 h10;subst h9; subst h10;obtain ⟨hid, hp⟩ := aH.1 (bE ht h3);obtain ⟨vs, hc, hl, hcell⟩ := aC8 hr hid h6;obtain ⟨u, hu, k1, k2⟩ := aC9 h8 hc;refine ⟨u, c.w, OpR.vl (s := Instr.loadAt t (a.eval x)) (by unfold execOp; rw [ho]) ?_, Po.same hr hu⟩;simp only [hp, Instr.loadAt, Instr.sureAddr, Sem.run_bind, Sem.run_pure, Result.andThen_ok];exact aB5 (aR h1) hl hcell k1 k2
 ·cases h5
theorem aHM {t : Nat} {x y : Operand} (hr : Rl c wb h) (ht : Tr c nt e a.tmps) (ho : o.op = .store t x y) (hx : qX F e h t x y = some (v, h')) : ∃ u w', OpR F.P a.eval o c.w u w' ∧ Po c wb h' v u w' := by
 obtain ⟨n, h1, h2⟩ := aA.1 hx;obtain ⟨i, hi, rfl⟩ := nD h1;obtain ⟨v1, h3, h4⟩ := aA.1 h2;obtain ⟨s, rfl, h5⟩ := aL.1 h4;split at h5
 ·rename_i id off;obtain ⟨v2, h6, h7⟩ := aA.1 h5;obtain ⟨g, l, rfl, h8⟩ := pW.1 h7;obtain ⟨h9, h10⟩ := aD.1 h8;obtain ⟨h2', h11, h12⟩ := aA.1 h10;injection h12 with h12;injection h12 with h12 h13;subst h12; subst h13;obtain ⟨hid, hp⟩ := aH.1 (bE ht h3);have hcl := cells_ok (bE ht h6);rw [aJ, iW] at h9;have hsz : (a.eval y).cells.size = i.sz := (by rw [← h9, ← hcl.len, Array.length_toList]);have he : execOp a.eval o = (do Instr.storeAt t (a.eval x) (a.eval y); pure Next.skip) := (by unfold execOp; rw [ho]);have hrun : ∀ w', (storeCells ⟨c.r id, off, none⟩ (a.eval y).cells.toList).run F.P c.w = .ok () w' → (Instr.storeAt t (a.eval x) (a.eval y)).run F.P c.w = .ok () w' := fun w' hw => by
   simp only [hp, Instr.storeAt, Instr.sureAddr, Sem.run_bind, Sem.run_pure, Result.andThen_ok, storeVar, gM (aR hi), hsz, ne_eq, not_true_eq_false, if_false];exact hw
  by_cases hl : l = []
  ·subst hl;have hem : (a.eval y).cells.toList = [] := List.eq_nil_of_length_eq_zero (by rw [hcl.len]; rfl);refine ⟨undef, c.w, OpR.sk he (hrun _ (by rw [hem]; rfl)), ?_⟩;unfold wr at h11;obtain ⟨g1, g2⟩ := aD.1 h11;obtain ⟨b, g3, g4⟩ := aA.1 g2;obtain ⟨nc, g5, g6⟩ := aA.1 g4;obtain ⟨g7, g8⟩ := aD.1 g6;injection g8 with g8;subst g8;obtain ⟨g9, rfl⟩ := rM.1 g5;have hb : (⟨b.ty, b.c.take off ++ [] ++ b.c.drop (off + ([] : List SV).length)⟩ : B) = b := (by simp);unfold H.put;rw [hb];refine ⟨c, rfl, Xt.refl c, ⟨hr.n, hr.k, hr.q, fun j b2 hj => ?_, fun p j x d hi2 hj hx2 hd hij => ?_, fun j b2 hj k1 k2 => ?_, hr.lp, hr.li⟩, nC⟩;all_goals
    have key : ∀ j b2, (T.set b h.h id).get j = some b2 → h.h.get j = some b2 := fun j b2 hj => by
     rcases T.get_set hj with ⟨rfl, rfl⟩ | ⟨_, k⟩
     ·exact g3
     ·exact k
   ·exact hr.blk j b2 (key j b2 hj)
   ·exact hr.inj p j x d (key _ _ hi2) (key _ _ hj) hx2 hd hij
   ·exact hr.new j b2 (key _ _ hj) k1 k2
  ·obtain ⟨d, X, R, hst, -, -⟩ := aGN hr F.P hid h11 hcl hl;exact ⟨undef, d.w, OpR.sk he (hrun _ hst), d, rfl, X, R, nC⟩
 ·cases h5
theorem aKq {x : Operand} (hr : Rl c wb h) (ht : Tr c nt e a.tmps) (ho : o.op = .nilCheck x) (hx : wW e h x = some (v, h')) : ∃ u w', OpR F.P a.eval o c.w u w' ∧ Po c wb h' v u w' := by
 obtain ⟨v1, h1, h2⟩ := aA.1 hx;obtain ⟨s, rfl, h3⟩ := aL.1 h2;have hv := aH.1 (bE ht h1);refine ⟨a.eval x, c.w, .inl ?_, ?_⟩
 ·unfold execOp;rw [ho];split at h3
  ·simp only [hv.2]; rfl
  ·simp only [hv.2]; rfl
  ·simp only [hv.2]; rfl
  ·cases h3
 ·split at h3 <;> first
   | (injection h3 with h3
      injection h3 with h3 h4;subst h3; subst h4;exact Po.same hr (bE ht h1))
   | cases h3
end
end Go.Proofs.YtcplpghmbahjdaaGreatDoor.E
namespace Go.Proofs.YtcplpghmbahjdaaGreatDoor.E
open Go
section
variable {F : Cf} {call : aG} {e e' : Env} {h h0 : H}
theorem pX {o : Op} (k : ∀ x ∈ o.operands, ev e x = ev e' x) : op1 F call o e h = op1 F call o e' h := by
 cases o with
 | move x => simp only [op1, eZ, k x (by simp [Op.operands])]
 | assign x => simp only [op1, eZ, k x (by simp [Op.operands])]
 | pick c a d =>
   have h1 := k c (by simp [Op.operands]); have h2 := k a (by simp [Op.operands]); have h3 := k d (by simp [Op.operands]);have h4 : ∀ x, ev e (cb x a d) = ev e' (cb x a d) := fun x => by cases x <;> assumption
   simp only [op1, eZ, sP, h1, h4]
 | alloc t => rfl
 | box t x => simp only [op1, eZ, aAs, k x (by simp [Op.operands])]
 | build t ps =>
   have h1 : ∀ pl, parts pl e ps.toList = parts pl e' ps.toList := fun pl => vV fun p hp => k p.2 (by simp only [Op.operands, List.mem_toArray, List.mem_map]; exact ⟨p, hp, rfl⟩);simp only [op1, eZ, oD, h1]
 | buildSlice t n ps =>
   have h1 : ∀ pl, parts pl e ps.toList = parts pl e' ps.toList := fun pl => vV fun p hp => k p.2 (by simp only [Op.operands, List.mem_toArray, List.mem_map]; exact ⟨p, hp, rfl⟩);simp only [op1, eZ, iV, h1]
 | load t x => simp only [op1, eZ, uX, k x (by simp [Op.operands])]
 | store t x y => simp only [op1, eZ, qX, k x (by simp [Op.operands]), k y (by simp [Op.operands])]
 | nilCheck x => simp only [op1, eZ, wW, k x (by simp [Op.operands])]
 | binOp op t x y t2 => simp only [op1, eZ, gW, k x (by simp [Op.operands]), k y (by simp [Op.operands])]
 | unOp op t x => simp only [op1, eZ, oUn, k x (by simp [Op.operands])]
 | convert s t x => simp only [op1, eZ, sQ, k x (by simp [Op.operands])]
 | makeFunc g x y =>
   have h1 : evL e y.toList = evL e' y.toList := aAZ fun z hz => k z (by simp [Op.operands] <;> simp_all);simp only [op1, eZ, pF, h1]
 | makeSlice t x y => simp only [op1, eZ, uY, k x (by simp [Op.operands]), k y (by simp [Op.operands])]
 | slice t x lo hi mx =>
   have h1 := k x (by simp [Op.operands]);have h2 : ∀ (d : Nat) (f : Nat → Option VH), bound e lo d f = bound e' lo d f := fun d f => vW fun y hy => k y (by simp [Op.operands, hy]);have h3 : ∀ (d : Nat) (f : Nat → Option VH), bound e hi d f = bound e' hi d f := fun d f => vW fun y hy => k y (by simp [Op.operands, hy]);simp only [op1, eZ, oF, h1, h2, h3]
 | fieldAddr s x g => simp only [op1, eZ, oFA, k x (by simp [Op.operands])]
 | field s x g => simp only [op1, eZ, oG, k x (by simp [Op.operands])]
 | indexAddr t x y => simp only [op1, eZ, oIA, k x (by simp [Op.operands]), k y (by simp [Op.operands])]
 | index t x y => simp only [op1, eZ, oIx, k x (by simp [Op.operands]), k y (by simp [Op.operands])]
 | extract x i => simp only [op1, eZ, wX, k x (by simp [Op.operands])]
 | call c =>
   obtain ⟨callee, xs, ats⟩ := c;have h1 : evL e xs.toList = evL e' xs.toList := aAZ fun z hz => k z (by simp only [Op.operands, Call.operands, Array.mem_append]; right; simpa using hz);cases callee with
   | value g =>
     have h2 := k g (by simp [Op.operands, Call.operands]);show (ob (ev e g) fun f => ob (evL e xs.toList) fun l => call f l h) = ob (ev e' g) fun f => ob (evL e' xs.toList) fun l => call f l h;rw [h1, h2]
   | invoke r m => rfl
   | builtin b =>
     show (ob (evL e xs.toList) fun l => bi F h b ats.toList l) = ob (evL e' xs.toList) fun l => bi F h b ats.toList l;rw [h1]
 | _ => rfl
end
structure Fr0 (h h' : H) : Prop where
 bar : h'.bar = h.bar
 n : h.n ≤ h'.n
 b : ∀ id b, id < h.bar → h'.h.get id = some b → h.h.get id = some b
 lo : ∀ id b, id < h.bar → h'.l.get id = some b → h.l.get id = some b
 wb : (∀ id b, h.h.get id = some b → id < h.n) → ∀ id b, h'.h.get id = some b → id < h'.n
 wl : (∀ id b, h.l.get id = some b → id < h.n) → ∀ id b, h'.l.get id = some b → id < h'.n
theorem Fr0.refl (h : H) : Fr0 h h := ⟨rfl, Nat.le_refl _, fun _ _ _ k => k, fun _ _ _ k => k, fun k => k, fun k => k⟩
theorem Fr0.trans {a c d : H} (p : Fr0 a c) (q : Fr0 c d) : Fr0 a d :=
 ⟨q.bar.trans p.bar, Nat.le_trans p.n q.n, fun id b i k => p.b id b i (q.b id b (p.bar ▸ i) k), fun id b i k => p.lo id b i (q.lo id b (p.bar ▸ i) k), fun k => q.wb (p.wb k), fun k => q.wl (p.wl k)⟩
theorem Fr0.lift {h h' : H} (p : Fr0 h.lift h') (hb : h.bar ≤ h.n) : Fr0 h (h'.back h.bar) :=
 ⟨rfl, p.n, fun id b i k => p.b id b (Nat.lt_of_lt_of_le i hb) k, fun id b i k => p.lo id b (Nat.lt_of_lt_of_le i hb) k, p.wb, p.wl⟩
section
variable {F : Cf} {h h' : H} {v : AV}
theorem Fr0.nw {x : B} (hb : h.bar ≤ h.n) : Fr0 h ⟨h.h.set x h.n, Nat.succ h.n, h.bar, h.l⟩ :=
 ⟨rfl, Nat.le_succ _, fun id b i k => by
  rcases T.get_set k with ⟨rfl, -⟩ | ⟨-, k⟩
  ·exact absurd i (Nat.not_lt.2 hb)
  ·exact k, fun _ _ _ k => k, fun k id b q => by
  rcases T.get_set q with ⟨rfl, -⟩ | ⟨-, q⟩
  ·exact Nat.lt_succ_self _
  ·exact Nat.lt_succ_of_lt (k id b q), fun k id b q => Nat.lt_succ_of_lt (k id b q)⟩
theorem aKr {x : B} {f : Nat → H → Option VH} (hb : h.bar ≤ h.n) (hx : h.nw x f = some (v, h')) (k : ∀ g, f h.n g = some (v, h') → h' = g) : Fr0 h h' := by
 unfold H.nw at hx;rw [aV] at hx;rw [k _ hx];exact Fr0.nw hb
theorem Fr0.put {id : Nat} {x x0 : B} (hb : h.bar ≤ id) (h0 : h.h.get id = some x0) : Fr0 h (h.put id x) :=
 ⟨rfl, Nat.le_refl _, fun j b i k => by
  rcases T.get_set k with ⟨rfl, -⟩ | ⟨-, k⟩
  ·exact absurd i (Nat.not_lt.2 hb)
  ·exact k, fun _ _ _ k => k, fun k j b q => by
  rcases T.get_set q with ⟨rfl, -⟩ | ⟨-, q⟩
  ·exact k _ _ h0
  ·exact k j b q, fun k => k⟩
theorem Fr0.putLp {id : Nat} {x x0 : Lp} (hb : h.bar ≤ id) (h0 : h.l.get id = some x0) : Fr0 h (h.putLp id x) :=
 ⟨rfl, Nat.le_refl _, fun _ _ _ k => k, fun j b i k => by
  rcases T.get_set k with ⟨rfl, -⟩ | ⟨-, k⟩
  ·exact absurd i (Nat.not_lt.2 hb)
  ·exact k, fun k => k, fun k j b q => by
  rcases T.get_set q with ⟨rfl, -⟩ | ⟨-, q⟩
  ·exact k _ _ h0
  ·exact k j b q⟩
theorem aGO {id off : Nat} {l : List SV} (hx : wr h id off l = some h') : Fr0 h h' := by
 unfold wr at hx;obtain ⟨h1, hx⟩ := aD.1 hx;obtain ⟨b, h0, hx⟩ := aA.1 hx;obtain ⟨c, -, hx⟩ := aA.1 hx;obtain ⟨-, hx⟩ := aD.1 hx;cases hx;exact Fr0.put (fQ.1 h1) h0
theorem aB6 {e : Env} {t : Nat} {a : Operand} (hx : uX F e h t a = some (v, h')) : h' = h := by
 unfold uX at hx;obtain ⟨i, -, hx⟩ := aA.1 hx;obtain ⟨u, -, hx⟩ := aA.1 hx;obtain ⟨s, -, hx⟩ := aL.1 hx;split at hx
 ·obtain ⟨c, -, hx⟩ := aA.1 hx;obtain ⟨u, -, hx⟩ := aA.1 hx;cases hx; rfl
 ·cases hx
theorem tH {x : B} {g : Nat → SV} (hb : h.bar ≤ h.n) (hx : (h.nw x fun a h => vh (g a) h) = some (v, h')) : Fr0 h h' := aKr hb hx fun g k => by cases k; rfl
theorem aF2 {t : Nat} (hb : h.bar ≤ h.n) (hx : uW F h t = some (v, h')) : Fr0 h h' := by
 unfold uW at hx;obtain ⟨i, -, hx⟩ := aA.1 hx;exact tH hb hx
theorem aJc {e : Env} {t : Nat} {x : Operand} (hb : h.bar ≤ h.n) (hx : aAs e h t x = some (v, h')) : Fr0 h h' := by
 unfold aAs at hx;obtain ⟨u, -, hx⟩ := aA.1 hx;cases u with
 | t l => cases hx
 | c g l => exact tH hb hx
theorem yZ {e : Env} {t n : Nat} {ps : List (Nat × Operand)} (hb : h.bar ≤ h.n) (hx : iV F e h t n ps = some (v, h')) : Fr0 h h' := by
 unfold iV at hx;obtain ⟨i, -, hx⟩ := aA.1 hx;obtain ⟨el, -, hx⟩ := aA.1 hx;obtain ⟨j, -, hx⟩ := aA.1 hx;obtain ⟨-, hx⟩ := aD.1 hx;obtain ⟨c, -, hx⟩ := aA.1 hx;exact tH hb hx
theorem aB7 {α : Type} {x : SV} {k : Nat → Option α} {y : α} (hx : natOf x k = some y) : ∃ n, k n = some y := by
 cases x with
 | i j n => cases n with
   | ofNat n => exact ⟨n, hx⟩
   | negSucc n => cases hx
 | _ => cases hx
theorem aHN {e : Env} {t : Nat} {x y : Operand} (hb : h.bar ≤ h.n) (hx : uY F e h t x y = some (v, h')) : Fr0 h h' := by
 unfold uY at hx;obtain ⟨i, -, hx⟩ := aA.1 hx;obtain ⟨el, -, hx⟩ := aA.1 hx;obtain ⟨j, -, hx⟩ := aA.1 hx;obtain ⟨u, -, hx⟩ := aA.1 hx;obtain ⟨s, -, hx⟩ := aL.1 hx;obtain ⟨n, hx⟩ := aB7 hx;obtain ⟨u, -, hx⟩ := aA.1 hx;obtain ⟨s, -, hx⟩ := aL.1 hx;obtain ⟨m, hx⟩ := aB7 hx;obtain ⟨-, hx⟩ := aD.1 hx;obtain ⟨-, hx⟩ := aD.1 hx;obtain ⟨-, hx⟩ := aD.1 hx;exact tH hb hx
theorem aF3 {e : Env} {t : Nat} {x y : Operand} (hx : qX F e h t x y = some (v, h')) : Fr0 h h' := by
 unfold qX at hx;obtain ⟨z, -, hx⟩ := aA.1 hx;obtain ⟨u, -, hx⟩ := aA.1 hx;obtain ⟨s, -, hx⟩ := aL.1 hx;split at hx
 ·obtain ⟨u, -, hx⟩ := aA.1 hx;cases u with
  | t l => cases hx
  | c g l =>
    obtain ⟨-, hx⟩ := aD.1 hx;obtain ⟨g, h1, hx⟩ := aA.1 hx;cases hx;exact aGO h1
 ·cases hx
theorem aJd {k el : Nat} {x : List SV} {g : Nat → SV} (hb : h.bar ≤ h.n) (hx : (h.cut k el x fun a h => vh (g a) h) = some (v, h')) : Fr0 h h' := by
 unfold H.cut at hx;obtain ⟨b, h0, hx⟩ := aA.1 hx;obtain ⟨-, hx⟩ := aD.1 hx;obtain ⟨-, hx⟩ := cbn.1 hx;obtain ⟨-, hx⟩ := aD.1 hx;obtain ⟨h1, hx⟩ := aD.1 hx;rw [aV] at hx;cases hx;have h1 := fQ.1 h1;exact ⟨rfl, Nat.le_succ _, fun id b i q => by
  rcases T.get_set q with ⟨rfl, -⟩ | ⟨-, q⟩
  ·exact absurd i (Nat.not_lt.2 hb)
  ·rcases T.get_set q with ⟨rfl, -⟩ | ⟨-, q⟩
   ·exact absurd i (Nat.not_lt.2 h1)
   ·exact q, fun _ _ _ q => q, fun w id b q => by
  rcases T.get_set q with ⟨rfl, -⟩ | ⟨-, q⟩
  ·exact Nat.lt_succ_self _
  ·rcases T.get_set q with ⟨rfl, -⟩ | ⟨-, q⟩
   ·exact Nat.lt_succ_of_lt (w _ _ h0)
   ·exact Nat.lt_succ_of_lt (w id b q), fun w id b q => Nat.lt_succ_of_lt (w id b q)⟩
theorem aB8 {α : Type} {x : SV} {k : Nat → Option α} {y : α} (hx : lenOf x k = some y) : ∃ n, k n = some y := by
 cases x with
 | s l => exact ⟨_, hx⟩
 | ns => exact ⟨_, hx⟩
 | sl a b n c => exact ⟨_, hx⟩
 | _ => cases hx
theorem aHO {el : Nat} {j : TI} {s x : SV} (hb : h.bar ≤ h.n) (hx : aCK h el j s x = some (v, h')) : Fr0 h h' := by
 unfold aCK at hx;obtain ⟨n, hx⟩ := aB8 hx;obtain ⟨m, hx⟩ := aB8 hx;obtain ⟨nw, -, hx⟩ := aA.1 hx;obtain ⟨old, -, hx⟩ := aA.1 hx;obtain ⟨-, hx⟩ := aD.1 hx;obtain ⟨-, hx⟩ := aD.1 hx;obtain ⟨-, hx⟩ := aD.1 hx;obtain ⟨-, hx⟩ := aD.1 hx;obtain ⟨-, hx⟩ := aD.1 hx;obtain ⟨-, hx⟩ := aD.1 hx;split at hx
 ·rw [aW] at hx;split at hx
  ·obtain ⟨-, hx⟩ := aD.1 hx;obtain ⟨b, -, hx⟩ := aA.1 hx;obtain ⟨-, hx⟩ := aD.1 hx;obtain ⟨g, h1, hx⟩ := aA.1 hx;cases hx;exact aGO h1
  ·exact tH hb hx
 ·obtain ⟨-, hx⟩ := aD.1 hx;exact aJd hb hx
 ·exact tH hb hx
 ·cases hx
theorem aKs {b : Builtin} {ats : List Nat} {l : List AV} (hb : h.bar ≤ h.n) (hx : bi F h b ats l = some (v, h')) : Fr0 h h' := by
 cases b with
 | len =>
   have : h' = h := by
    refine Pm.got (y := bi F h .len ats l) ?_ hx;unfold bi;dsimp only
    repeat' (first | exact rfl | exact Pm.no | exact Pm.ye | exact Pm.vh | refine Pm.ob fun _ => ?_ | refine Pm.cb ?_ ?_ | refine Pm.one fun _ => ?_ | refine Pm.agg fun _ => ?_ | refine Pm.natOf fun _ => ?_ | refine Pm.bound fun _ => ?_ | refine Pm.chk ?_ | refine Pm.opt ?_ fun _ => ?_ | split)
   rw [this]; exact Fr0.refl h
 | min => obtain ⟨u, -, hx⟩ := aA.1 hx; cases hx; exact Fr0.refl h
 | max => obtain ⟨u, -, hx⟩ := aA.1 hx; cases hx; exact Fr0.refl h
 | append =>
   unfold bi at hx;dsimp only at hx;split at hx
   ·obtain ⟨i, -, hx⟩ := aA.1 hx;obtain ⟨el, -, hx⟩ := aA.1 hx;obtain ⟨-, hx⟩ := aD.1 hx;obtain ⟨j, -, hx⟩ := aA.1 hx;obtain ⟨s, -, hx⟩ := aL.1 hx;obtain ⟨x, -, hx⟩ := aL.1 hx;exact aHO hb hx
   ·cases hx
 | _ => cases hx
def dI (call : aG) : Prop := ∀ (f : AV) (l : List AV) (h : H) (v : AV) (h' : H), h.bar ≤ h.n → call f l h = some (v, h') → Fr0 h h'
theorem vY {call : aG} {o : Op} {e : Env} (hc : dI call) (hb : h.bar ≤ h.n) (hx : op1 F call o e h = some (v, h')) : Fr0 h h' := by
 have pure : ∀ {x y : Option VH}, Pm h x y → x = some (v, h') → Fr0 h h' := fun k hx => by rw [Pm.got k hx]; exact Fr0.refl h
 cases o with
 | move x => obtain ⟨u, -, hx⟩ := aA.1 hx; cases hx; exact Fr0.refl h
 | assign x => obtain ⟨u, -, hx⟩ := aA.1 hx; cases hx; exact Fr0.refl h
 | pick c a d => exact pure (aB1 (h0 := h)) hx
 | alloc t => exact aF2 hb hx
 | box t x => exact aJc hb hx
 | build t ps => exact pure (aAW (h0 := h)) hx
 | buildSlice t n ps => exact yZ hb hx
 | load t x => rw [aB6 hx]; exact Fr0.refl h
 | store t x y => exact aF3 hx
 | nilCheck x => exact pure (aEr (h0 := h)) hx
 | binOp op t x y t2 => exact pure (aEs (h0 := h)) hx
 | unOp op t x => exact pure (aGJ (h0 := h)) hx
 | convert s t x => exact pure (aB2 (h0 := h)) hx
 | makeFunc g x y => exact pure (aB3 (h0 := h)) hx
 | makeSlice t x y => exact aHN hb hx
 | slice t x lo hi mx => exact pure (aAX (h0 := h)) hx
 | fieldAddr s x g => exact pure (aGK (h0 := h)) hx
 | field s x g => exact pure (aAY (h0 := h)) hx
 | indexAddr t x y => exact pure (aGL (h0 := h)) hx
 | index t x y => exact pure (aGM (h0 := h)) hx
 | extract x i => exact pure (aEt (h0 := h)) hx
 | call c =>
   obtain ⟨callee, xs, ats⟩ := c;cases callee with
   | value g =>
     obtain ⟨f, -, hx⟩ := aA.1 hx;obtain ⟨l, -, hx⟩ := aA.1 hx;exact hc _ _ _ _ _ hb hx
   | invoke r m => cases hx
   | builtin b =>
     obtain ⟨l, -, hx⟩ := aA.1 hx;exact aKs hb hx
 | _ => cases hx
end
end Go.Proofs.YtcplpghmbahjdaaGreatDoor.E
