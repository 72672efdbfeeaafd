/- ValueTexts (P1.9): the law holds. No condition.. Part of the proof: texts Md3 Md4 Md1 Md5 Mf1 Mf2. -/
import Derived.Test.YtgokbhikgdhmpaaGreatDoorQt03
import Derived.Test.YtgokbhikgdhmpaaGreatDoorQt04
namespace Go.Proofs.YtgokbhikgdhmpaaGreatDoor.Ma
theorem fore_of' {c : UInt8} {f : List UInt8} (s : List UInt8) (h : c ∉ f) : fore c (f ++ c :: s) = f ∧ aft c (f ++ c :: s) = s := fore_of h
theorem isNeg_dig {l r : List UInt8} (h : AllD l) (h0 : l ≠ []) : isNeg (l ++ r) = false ∧ unsigned (l ++ r) = l ++ r := by
 cases l with
 | nil => exact absurd rfl h0
 | cons c t =>
  have hc := h c (by simp)
  have e : isNeg (c :: t ++ r) = false := by
   have : c ≠ 45 := by rintro rfl; revert hc; decide
   simpa [isNeg] using this
  exact ⟨e, by unfold unsigned; rw [e]; rfl⟩
theorem unsign {q : Rat} {l r : List UInt8} (h : AllD l) (h0 : l ≠ []) : isNeg (signT q ++ (l ++ r)) = decide (q < 0) ∧ unsigned (signT q ++ (l ++ r)) = l ++ r := by
 unfold signT
 by_cases hq : q < 0
 ·rw [if_pos hq, decide_eq_true hq]; exact ⟨rfl, rfl⟩
 ·rw [if_neg hq, decide_eq_false hq, List.nil_append]; exact isNeg_dig h h0
theorem textQ_eq (q : Rat) : textQ q = signT q ++ (dec q.num.natAbs ++ if q.den = 1 then [] else 47 :: dec q.den) := by
 unfold textQ signT
 by_cases h : q < 0
 ·rw [if_pos ((num_lt_iff q).2 h), if_pos h, List.append_assoc]
 ·rw [if_neg (fun h1 => h ((num_lt_iff q).1 h1)), if_neg h, List.append_assoc]
theorem dec_one : dec 1 = [49] := by rw [dec_small (by decide)]; rfl
theorem dec_zero : dec 0 = [48] := by rw [dec_small (by decide)]; rfl
theorem dec_eq_zero {N : Nat} (h : dec N = [48]) : N = 0 := dec_inj (h.trans dec_zero.symm)
theorem dec_eq_one {N : Nat} (h : dec N = [49]) : N = 1 := dec_inj (h.trans dec_one.symm)
theorem mkQ_self (q : Rat) : mkQ (decide (q < 0)) q.num.natAbs q.den = q := by
 unfold mkQ
 have e : (if decide (q < 0) = true then -((q.num.natAbs : Nat) : Int) else ((q.num.natAbs : Nat) : Int)) = q.num := by
  by_cases h : q < 0
  ·have := (num_lt_iff q).2 h
   rw [if_pos (decide_eq_true h)]; omega
  ·have : ¬ q.num < 0 := fun h1 => h ((num_lt_iff q).1 h1)
   rw [if_neg (by rw [decide_eq_false h]; decide)]; omega
 rw [e, Rat.mkRat_self]
def digQ (q : Rat) : Nat := max (dec q.num.natAbs).length (dec q.den).length
theorem neg_pos {q : Rat} (h : q < 0) : 0 < q.num.natAbs := by have := (num_lt_iff q).2 h; omega
theorem num_zero {q : Rat} (h : q.num.natAbs = 0) : q.den = 1 := by
 have h1 := q.reduced
 rw [h] at h1
 simpa using h1
theorem parse_of_text (q : Rat) : parseS (textQ q) = if digQ q ≤ 1000 then (0, q) else (3, 0) := by
 have hN := dec_row q.num.natAbs
 have hD := dec_row q.den
 obtain ⟨e1, e2⟩ := unsign (q := q) (r := if q.den = 1 then [] else 47 :: dec q.den) hN.1 hN.2.1
 have n47 : (47 : UInt8) ∉ dec q.num.natAbs := hN.1.no (by decide)
 unfold parseS
 rw [textQ_eq, e1, e2]
 have hneg : ∀ h : q < 0, dec q.num.natAbs ≠ [48] := fun h h1 => by have := dec_eq_zero h1; have := neg_pos h; omega
 have hlen1 : (dec 1).length = 1 := by rw [dec_one]; rfl
 have hpos : 0 < (dec q.num.natAbs).length := List.length_pos_iff.2 hN.2.1
 by_cases h1 : q.den = 1
 ·rw [if_pos h1, List.append_nil]
  obtain ⟨f1, f2⟩ := fore_all n47
  rw [f1, f2, decide_eq_false n47]
  unfold parseR
  rw [if_neg (by
   rintro (h | ⟨h, h2 | h2⟩)
   ·exact h hN
   ·exact hneg (of_decide_eq_true h2) h
   ·simp at h2), if_neg (by simp)]
  unfold digQ
  rw [h1, hlen1]
  by_cases hl : (dec q.num.natAbs).length ≤ 1000
  ·rw [if_neg (by simp; omega), if_pos rfl, if_pos (by omega), dv_dec, show mkQ (decide (q < 0)) q.num.natAbs 1 = q from by rw [← h1]; exact mkQ_self q]
  ·rw [if_pos (by left; omega), if_neg (by omega)]
 ·rw [if_neg h1]
  obtain ⟨f1, f2⟩ := fore_of' (dec q.den) n47
  rw [f1, f2, decide_eq_true (show (47 : UInt8) ∈ dec q.num.natAbs ++ 47 :: dec q.den by simp)]
  unfold parseR
  rw [if_neg (by
   rintro (h | ⟨h, h2⟩)
   ·exact h hN
   ·exact h1 (num_zero (dec_eq_zero h))), if_neg (by
   rintro ⟨-, h | h | h⟩
   ·exact h hD
   ·have := dec_eq_zero h; exact q.den_nz this
   ·exact h1 (dec_eq_one h))]
  unfold digQ
  by_cases hl : (dec q.num.natAbs).length ≤ 1000 ∧ (dec q.den).length ≤ 1000
  ·rw [if_neg (by omega), if_neg (by simp), if_neg (by rw [dv_dec, dv_dec]; simp; exact q.reduced), if_pos (by omega), dv_dec, dv_dec, mkQ_self]
  ·rw [if_pos (by omega), if_neg (by omega)]
theorem textQ_inj {x y : Rat} (hx : digQ x ≤ 1000) (h : textQ x = textQ y) : x = y := by
 have h1 := parse_of_text x
 have h2 := parse_of_text y
 rw [h, h2, if_pos hx] at h1
 by_cases hy : digQ y ≤ 1000
 ·rw [if_pos hy] at h1; exact ((Prod.mk.injEq _ _ _ _).mp h1).2.symm
 ·rw [if_neg hy] at h1; simp at h1
theorem text_slash (q : Rat) : 47 ∈ textQ q ↔ q.den ≠ 1 := by
 have n47 : (47 : UInt8) ∉ dec q.num.natAbs := (dec_allD _).no (by decide)
 have s47 : (47 : UInt8) ∉ signT q := by unfold signT; split <;> simp
 rw [textQ_eq]
 by_cases h1 : q.den = 1 <;> simp [h1, n47, s47]
theorem cutP_dig {l : List UInt8} (h : AllD l) : cutP l = (l, 0) := by
 unfold cutP
 cases hl : l.getLast? with
 | none => rfl
 | some c =>
  have hc := h c (List.mem_of_getLast? hl)
  have : pfx c = none := by
   unfold pfx
   have g : ∀ d : UInt8, 57 < d.toNat → c ≠ d := fun d hd e => by subst e; omega
   rw [if_neg (g _ (by decide)), if_neg (g _ (by decide)), if_neg (g _ (by decide)), if_neg (g _ (by decide)), if_neg (g _ (by decide)), if_neg (g _ (by decide)), if_neg (g _ (by decide)), if_neg (g _ (by decide)), if_neg (g _ (by decide))]
  simp only [this]
theorem sgQ_abs (q : Rat) : sgQ (decide (q < 0)) (absQ q) = q := by
 unfold sgQ absQ
 by_cases h : q < 0
 ·rw [if_pos (decide_eq_true h), if_pos h, Rat.neg_neg]
 ·rw [if_neg (by rw [decide_eq_false h]; decide), if_neg h]
theorem absQ_nat {q : Rat} (h : q.den = 1) : absQ q = ((q.num.natAbs : Nat) : Rat) := by
 have e : (q.num : Rat) = q := by rw [rnum_eq, h]; simp [Rat.mul_one]
 have hi := num_lt_iff q
 unfold absQ
 by_cases hq : q < 0
 ·have h0 := hi.2 hq
  rw [if_pos hq, ← Rat.intCast_natCast, show ((q.num.natAbs : Nat) : Int) = -q.num by omega, Rat.intCast_neg, e]
 ·have h0 : ¬ q.num < 0 := fun h1 => hq (hi.1 h1)
  rw [if_neg hq, ← Rat.intCast_natCast, show ((q.num.natAbs : Nat) : Int) = q.num by omega, e]
theorem read_int {q : Rat} (h : q.den = 1) : readS (textQ q) = if (dec q.num.natAbs).length ≤ 400 then (0, q) else (3, 0) := by
 have hN := dec_row q.num.natAbs
 have h47 : ¬ 47 ∈ textQ q := fun h1 => (text_slash q).1 h1 h
 unfold readS
 rw [if_neg h47, textQ_eq, if_pos h]
 obtain ⟨e1, e2⟩ := unsign (q := q) (r := []) hN.1 hN.2.1
 rw [e1, e2, List.append_nil, cutP_dig hN.1]
 have n46 : (46 : UInt8) ∉ dec q.num.natAbs := hN.1.no (by decide)
 obtain ⟨f1, f2⟩ := fore_all n46
 simp only [f1, f2]
 rw [decide_eq_false n46]
 unfold readR
 rw [if_neg (by
  rintro (h | ⟨h, -⟩)
  ·exact h ⟨hN.1, hN.2.1⟩
  ·simp at h)]
 by_cases hl : (dec q.num.natAbs).length ≤ 400
 ·rw [if_neg (by simp; omega), if_pos hl, List.append_nil, dv_dec, List.length_nil, show (0 : Int) - ((0 : Nat) : Int) = 0 from rfl, tenQ_zero, Rat.mul_one, ← absQ_nat h, sgQ_abs]
 ·rw [if_pos (by simp; omega), if_neg hl]
theorem read_text (q : Rat) : (∃ e, readS (textQ q) = (e, 0) ∧ e ≠ 0) ∨ readS (textQ q) = (0, q) := by
 by_cases h : q.den = 1
 ·rw [read_int h]
  split
  ·exact .inr rfl
  ·exact .inl ⟨3, rfl, by decide⟩
 ·have h47 := (text_slash q).2 h
  unfold readS
  rw [if_pos h47, parse_of_text]
  split
  ·exact .inr rfl
  ·exact .inl ⟨3, rfl, by decide⟩
theorem pIdx_lt (x : Rat) (n : Nat) (h : 0 < n) : pIdx x n < n := by
 induction n with
 | zero => omega
 | succ n ih =>
  unfold pIdx
  split
  ·omega
  ·rcases Nat.eq_zero_or_pos n with h0 | h0
   ·subst h0; unfold pIdx; omega
   ·have := ih h0; omega
theorem letter_cut {l : List UInt8} {i : Nat} (hi : i < 10) (h0 : l ≠ []) (hd : ∀ c, l.getLast? = some c → c.toNat ≤ 57) : cutP (l ++ letter i) = (l, 3 * (i : Int) - 15) := by
 have key : ∀ (c : UInt8) (p : Int), pfx c = some p → cutP (l ++ [c]) = (l, p) := fun c p h => by
  unfold cutP; simp [h]
 rcases (by omega : i = 0 ∨ i = 1 ∨ i = 2 ∨ i = 3 ∨ i = 4 ∨ i = 5 ∨ i = 6 ∨ i = 7 ∨ i = 8 ∨ i = 9) with rfl | rfl | rfl | rfl | rfl | rfl | rfl | rfl | rfl | rfl
 ·exact key 102 (-15) rfl
 ·exact key 112 (-12) rfl
 ·exact key 110 (-9) rfl
 ·exact key 117 (-6) rfl
 ·exact key 109 (-3) rfl
 ·show cutP (l ++ []) = _
  rw [List.append_nil]
  unfold cutP
  obtain ⟨c, hc⟩ : ∃ c, l.getLast? = some c := by
   cases hl : l.getLast? with
   | none => exact absurd (List.getLast?_eq_none_iff.1 hl) h0
   | some c => exact ⟨c, rfl⟩
  have := hd c hc
  have hp : pfx c = none := by
   unfold pfx
   have g : ∀ d : UInt8, 57 < d.toNat → c ≠ d := fun d hd e => by subst e; omega
   rw [if_neg (g _ (by decide)), if_neg (g _ (by decide)), if_neg (g _ (by decide)), if_neg (g _ (by decide)), if_neg (g _ (by decide)), if_neg (g _ (by decide)), if_neg (g _ (by decide)), if_neg (g _ (by decide)), if_neg (g _ (by decide))]
  rw [hc]; simp only [hp]; rfl
 ·exact key 107 3 rfl
 ·exact key 77 6 rfl
 ·exact key 71 9 rfl
 ·exact key 84 12 rfl
theorem absQ_pos {q : Rat} (h : q ≠ 0) : 0 < absQ q := by unfold absQ; split <;> grind
theorem read_short {q : Rat} {d : List UInt8} (hq : q ≠ 0) (h : shortS (unitsQ q) = some d) : readS (signT q ++ d ++ letter (pIdx (absQ q) 10)) = (0, q) ∧ 47 ∉ signT q ++ d ++ letter (pIdx (absQ q) 10) := by
 have hi := pIdx_lt (absQ q) 10 (by decide)
 generalize hI : pIdx (absQ q) 10 = i at *
 unfold shortS at h
 split at h
 ·rename_i hd1
  have hu : unitsQ q = (((unitsQ q).num.natAbs : Nat) : Rat) := by
   have h1 := absQ_nat hd1
   have h2 : ¬ unitsQ q < 0 := by
    have a := absQ_pos hq
    have b := tenQ_pos (15 - 3 * (pIdx (absQ q) 10 : Int))
    have c := tenQ_pos 12
    have := Rat.mul_pos (Rat.mul_pos a b) c
    unfold unitsQ; grind
   unfold absQ at h1
   rw [if_neg h2] at h1
   exact h1
  generalize hU : (unitsQ q).num.natAbs = U at *
  unfold shortU at h
  split at h
  ·cases h
  rename_i hlen
  obtain ⟨v1, v2, v3⟩ := short_val U
  have hF := dec_row (U / 1000000000000)
  generalize hf : dec (U / 1000000000000) = f at *
  generalize hb : rtrim (pd 12 (U % 1000000000000)) = b at *
  have hd : d = f ++ if b = [] then [] else 46 :: b := by simpa using h.symm
  have n46f : (46 : UInt8) ∉ f := hF.1.no (by decide)
  have h47 : 47 ∉ signT q ++ d ++ letter i := by
   have s47 : (47 : UInt8) ∉ signT q := by unfold signT; split <;> simp
   have f47 : (47 : UInt8) ∉ f := hF.1.no (by decide)
   have b47 : (47 : UInt8) ∉ b := v2.no (by decide)
   have l47 : (47 : UInt8) ∉ letter i := by
    rcases (by omega : i = 0 ∨ i = 1 ∨ i = 2 ∨ i = 3 ∨ i = 4 ∨ i = 5 ∨ i = 6 ∨ i = 7 ∨ i = 8 ∨ i = 9) with rfl | rfl | rfl | rfl | rfl | rfl | rfl | rfl | rfl | rfl <;> decide
   rw [hd]
   by_cases hb0 : b = [] <;> simp [hb0, s47, f47, b47, l47]
  refine ⟨?_, h47⟩
  unfold readS
  rw [if_neg h47]
  have hd0 : d ≠ [] := by rw [hd]; intro h1; exact hF.2.1 (List.append_eq_nil_iff.1 h1).1
  have hlast : ∀ c, d.getLast? = some c → c.toNat ≤ 57 := by
   intro c hc
   have hc' := List.mem_of_getLast? hc
   rw [hd] at hc'
   rcases List.mem_append.1 hc' with h1 | h1
   ·exact (hF.1 c h1).2
   ·split at h1
    ·simp at h1
    ·rcases List.mem_cons.1 h1 with h2 | h2
     ·subst h2; decide
     ·exact (v2 c h2).2
  obtain ⟨e1, e2⟩ := unsign (q := q) (l := f) (r := (if b = [] then [] else 46 :: b) ++ letter i) hF.1 hF.2.1
  have el : signT q ++ d ++ letter i = signT q ++ (f ++ ((if b = [] then [] else 46 :: b) ++ letter i)) := by rw [hd]; simp
  have er : f ++ ((if b = [] then [] else 46 :: b) ++ letter i) = d ++ letter i := by rw [hd]; simp
  rw [el, e1, e2, er, letter_cut hi hd0 hlast]
  have hparts : fore 46 d = f ∧ aft 46 d = b ∧ (decide (46 ∈ d) = true → b ≠ []) := by
   rw [hd]
   by_cases hb0 : b = []
   ·rw [if_pos hb0, List.append_nil, hb0]
    obtain ⟨p1, p2⟩ := fore_all n46f
    exact ⟨p1, p2, fun h1 => absurd (of_decide_eq_true h1) n46f⟩
   ·rw [if_neg hb0]
    obtain ⟨p1, p2⟩ := fore_of' b n46f
    exact ⟨p1, p2, fun _ => hb0⟩
  obtain ⟨p1, p2, p3⟩ := hparts
  simp only [p1, p2]
  unfold readR
  rw [if_neg (by
   rintro (h1 | ⟨h1, h2⟩)
   ·exact h1 ⟨hF.1, hF.2.1⟩
   ·exact h2 ⟨v2, p3 h1⟩), if_neg hlen]
  have hval : ((dv (f ++ b) : Nat) : Rat) * tenQ (3 * (i : Int) - 15 - (b.length : Int)) = absQ q := by
   have t1 : tenQ (3 * (i : Int) - 15 - (b.length : Int)) = tenQ (12 - (b.length : Int)) * (tenQ (-12) * tenQ (-(15 - 3 * (i : Int)))) := by
    rw [← tenQ_add, ← tenQ_add]; congr 1; omega
   have t2 := tenQ_inv 12
   have t3 := tenQ_inv (15 - 3 * (i : Int))
   have hu2 : absQ q * tenQ (15 - 3 * (i : Int)) * tenQ 12 = (U : Rat) := by
    have := hu; unfold unitsQ at this; rw [hI] at this; exact this
   rw [t1, ← Rat.mul_assoc, v1, ← hu2]
   grind
  have hs : sgQ (decide (q < 0)) ((dv (f ++ b) : Nat) : Rat) * tenQ (3 * (i : Int) - 15 - (b.length : Int)) = q := by
   have h2 : sgQ (decide (q < 0)) ((dv (f ++ b) : Nat) : Rat) * tenQ (3 * (i : Int) - 15 - (b.length : Int)) = sgQ (decide (q < 0)) (((dv (f ++ b) : Nat) : Rat) * tenQ (3 * (i : Int) - 15 - (b.length : Int))) := by
    unfold sgQ; split
    ·rw [Rat.neg_mul]
    ·rfl
   rw [h2, hval, sgQ_abs]
  rw [hs]
 ·cases h
theorem text_zero : textQ 0 = [48] := by
 rw [textQ_eq]
 unfold signT
 rw [if_neg (by decide), if_pos (show (0 : Rat).den = 1 from rfl), show (0 : Rat).num.natAbs = 0 from rfl, dec_zero]; rfl
theorem show_cases (q : Rat) : showQ q = textQ q ∨ (readS (showQ q) = (0, q) ∧ 47 ∉ showQ q) := by
 unfold showQ
 by_cases h0 : q = 0
 ·left; rw [if_pos h0, h0, text_zero]
 ·rw [if_neg h0]
  cases h : shortS (unitsQ q) with
  | none => exact .inl rfl
  | some d => right; exact read_short h0 h
theorem show_inj {x y : Rat} (hx : digQ x ≤ 1000) (h : showQ x = showQ y) : x = y := by
 rcases show_cases x with h1 | ⟨h1, -⟩ <;> rcases show_cases y with h2 | ⟨h2, -⟩
 ·exact textQ_inj hx (by rw [← h1, h, h2])
 ·rw [← h, h1] at h2
  rcases read_text x with ⟨e, h3, h4⟩ | h3
  ·rw [h3] at h2; exact absurd ((Prod.mk.injEq _ _ _ _).mp h2).1 h4
  ·rw [h3] at h2; exact ((Prod.mk.injEq _ _ _ _).mp h2).2
 ·rw [h, h2] at h1
  rcases read_text y with ⟨e, h3, h4⟩ | h3
  ·rw [h3] at h1; exact absurd ((Prod.mk.injEq _ _ _ _).mp h1).1 h4
  ·rw [h3] at h1; exact ((Prod.mk.injEq _ _ _ _).mp h1).2.symm
 ·rw [h, h2] at h1; exact ((Prod.mk.injEq _ _ _ _).mp h1).2.symm
end Go.Proofs.YtgokbhikgdhmpaaGreatDoor.Ma
namespace Go.Proofs.YtgokbhikgdhmpaaGreatDoor.Ma
theorem dec_len_le {M b : Nat} (h : M < 10 ^ b) : (dec M).length ≤ max b 1 := by
 rw [dec_length]
 split
 ·omega
 ·have := (dg_le_iff (b := 10) (by decide) M b).2 h; omega
theorem pd_small (b M : Nat) (h : M < 10 ^ b) (hb : 0 < b) : pd b M = List.replicate (b - (dec M).length) 48 ++ dec M := by
 induction b generalizing M with
 | zero => omega
 | succ b ih =>
  unfold pd
  rcases Nat.lt_or_ge M 10 with h10 | h10
  ·rw [dec_small h10, Nat.div_eq_of_lt h10, Nat.mod_eq_of_lt h10]
   rcases Nat.eq_zero_or_pos b with h0 | h0
   ·subst h0; rfl
   ·rw [ih 0 (Nat.pow_pos (by decide)) h0, dec_zero]
    simp only [List.length_singleton]
    rw [show ([48] : List UInt8) = List.replicate 1 48 from rfl, List.replicate_append_replicate]
    congr 2
    omega
  ·have hb0 : 0 < b := by
    rcases Nat.eq_zero_or_pos b with h0 | h0
    ·subst h0; rw [Nat.zero_add, Nat.pow_one] at h; omega
    ·exact h0
   rw [ih (M / 10) (Nat.div_lt_of_lt_mul (by rw [Nat.pow_succ] at h; omega)) hb0, dec_big h10]
   simp [List.append_assoc]
structure Beh (m : Rat) (b : Nat) : Prop where
 le : b ≤ 13
 no : ∀ j < b, (m * tenQ j).den ≠ 1
end Go.Proofs.YtgokbhikgdhmpaaGreatDoor.Ma
namespace Go.Proofs.YtgokbhikgdhmpaaGreatDoor.Ma
open Me
def szb (b : Nat) (q : Rat) : Nat := dg b q.num.natAbs + dg b q.den
theorem szb_neg (b : Nat) (q : Rat) : szb b (-q) = szb b q := by unfold szb; rw [Rat.neg_num, Rat.neg_den, Int.natAbs_neg]
theorem szb_inv {b : Nat} (hb : 1 < b) (q : Rat) : szb b q⁻¹ ≤ szb b q + 1 := by
 unfold szb
 rw [Rat.num_inv, Rat.den_inv]
 by_cases h : q.num = 0
 ·have e1 : dg b 1 = 1 := dg_one hb
  simp [h, dg_zero, e1]
 ·rw [if_neg h, Int.natAbs_mul]
  have e : q.num.sign.natAbs = 1 := by rw [Int.natAbs_sign, if_neg h]
  rw [e, Nat.one_mul]
  simp only [Int.natAbs_natCast]
  omega
theorem dgb_le {b : Nat} (hb : 1 < b) {M N : Nat} (h : M ≤ N) : dg b M ≤ dg b N := dg_mono hb h
theorem szb_mul {b : Nat} (hb : 1 < b) (x y : Rat) : szb b (x * y) ≤ szb b x + szb b y := by
 obtain ⟨h1, h2⟩ := rat_mul (x := x) (y := y) rfl rfl
 unfold szb
 rw [h1, h2, Int.natAbs_mul]
 have a1 := Int.natAbs_ediv_of_dvd (a := x.num) (b := ((Nat.gcd x.num.natAbs y.den : Nat) : Int)) (natCast_dvd.2 (Nat.gcd_dvd_left _ _))
 have a2 := Int.natAbs_ediv_of_dvd (a := y.num) (b := ((Nat.gcd y.num.natAbs x.den : Nat) : Int)) (natCast_dvd.2 (Nat.gcd_dvd_left _ _))
 rw [a1, a2]
 simp only [Int.natAbs_natCast]
 have b1 := dg_mul hb (x.num.natAbs / Nat.gcd x.num.natAbs y.den) (y.num.natAbs / Nat.gcd y.num.natAbs x.den)
 have b2 := dg_mul hb (x.den / Nat.gcd y.num.natAbs x.den) (y.den / Nat.gcd x.num.natAbs y.den)
 have c1 := dgb_le hb (Nat.div_le_self x.num.natAbs (Nat.gcd x.num.natAbs y.den))
 have c2 := dgb_le hb (Nat.div_le_self y.num.natAbs (Nat.gcd y.num.natAbs x.den))
 have c3 := dgb_le hb (Nat.div_le_self x.den (Nat.gcd y.num.natAbs x.den))
 have c4 := dgb_le hb (Nat.div_le_self y.den (Nat.gcd x.num.natAbs y.den))
 omega
theorem szb_add {b : Nat} (hb : 1 < b) (x y : Rat) : szb b (x + y) ≤ 2 * (szb b x + szb b y) + 1 := by
 obtain ⟨h1, h2, -, -, h5, -⟩ := rat_add (x := x) (y := y) rfl rfl rfl rfl rfl
 unfold szb
 rw [h1, h2, Int.natAbs_ediv_of_dvd h5]
 simp only [Int.natAbs_natCast]
 generalize Nat.gcd x.den y.den = d
 generalize hg : Nat.gcd (x.num * ((y.den / d : Nat) : Int) + y.num * ((x.den / d : Nat) : Int)).natAbs d = c
 have a1 : (x.num * ((y.den / d : Nat) : Int) + y.num * ((x.den / d : Nat) : Int)).natAbs ≤ x.num.natAbs * (y.den / d) + y.num.natAbs * (x.den / d) := by
  have := Int.natAbs_add_le (x.num * ((y.den / d : Nat) : Int)) (y.num * ((x.den / d : Nat) : Int))
  rwa [Int.natAbs_mul, Int.natAbs_mul, Int.natAbs_natCast, Int.natAbs_natCast] at this
 have a2 := dgb_le hb (Nat.le_trans (Nat.div_le_self _ c) a1)
 have a3 := dg_add hb (x.num.natAbs * (y.den / d)) (y.num.natAbs * (x.den / d))
 have a4 := dg_mul hb x.num.natAbs (y.den / d)
 have a5 := dg_mul hb y.num.natAbs (x.den / d)
 have a6 := dgb_le hb (Nat.div_le_self x.den d)
 have a7 := dgb_le hb (Nat.div_le_self y.den d)
 have a8 := dg_mul hb (x.den / d) (y.den / c)
 have a9 := dgb_le hb (Nat.div_le_self y.den c)
 omega
theorem dgb_pow {b : Nat} (hb : 1 < b) (N n : Nat) : dg b (N ^ n) ≤ n * dg b N + 1 := by
 induction n with
 | zero => rw [Nat.pow_zero, dg_one hb]; omega
 | succ n ih =>
  rcases Nat.eq_zero_or_pos N with h | h
  ·subst h; rw [Nat.zero_pow (by omega), dg_zero]; omega
  ·rw [Nat.pow_succ]
   have := dg_mul hb (N ^ n) N
   rw [Nat.succ_mul]; omega
theorem rat_pow (q : Rat) (n : Nat) : (q ^ n).num = q.num ^ n ∧ (q ^ n).den = q.den ^ n := ⟨Rat.num_pow q n, Rat.den_pow q n⟩
theorem szb_pow {b : Nat} (hb : 1 < b) (q : Rat) (n : Nat) : szb b (q ^ n) ≤ n * szb b q + 2 := by
 unfold szb
 rw [(rat_pow q n).1, (rat_pow q n).2, Int.natAbs_pow, Nat.mul_add]
 have := dgb_pow hb q.num.natAbs n
 have := dgb_pow hb q.den n
 omega
theorem szb_int {b : Nat} (hb : 1 < b) (z : Int) (h : z.natAbs < b) : szb b (z : Rat) ≤ 2 := by
 unfold szb
 rw [Rat.num_intCast, Rat.den_intCast, dg_one hb]
 have := (dg_le_iff hb z.natAbs 1).2 (by rwa [Nat.pow_one])
 omega
def sz (q : Rat) : Nat := szb W64 q
theorem sz_num (q : Rat) : dg W64 q.num.natAbs ≤ sz q := Nat.le_add_right _ _
theorem sz_den (q : Rat) : dg W64 q.den ≤ sz q := Nat.le_add_left _ _
theorem sz_eq (q : Rat) : dg W64 q.num.natAbs + dg W64 q.den = sz q := rfl
theorem sz_neg (q : Rat) : sz (-q) = sz q := szb_neg W64 q
theorem sz_inv (q : Rat) : sz q⁻¹ ≤ sz q + 1 := szb_inv W64_gt q
theorem sz_mul (x y : Rat) : sz (x * y) ≤ sz x + sz y := szb_mul W64_gt x y
theorem sz_add (x y : Rat) : sz (x + y) ≤ 2 * (sz x + sz y) + 1 := szb_add W64_gt x y
theorem sz_sub (x y : Rat) : sz (x - y) ≤ 2 * (sz x + sz y) + 1 := by rw [Rat.sub_eq_add_neg, ← sz_neg y]; exact sz_add x (-y)
theorem sz_pow (q : Rat) (n : Nat) : sz (q ^ n) ≤ n * sz q + 2 := szb_pow W64_gt q n
theorem sz_int (z : Int) (h : z.natAbs < W64) : sz (z : Rat) ≤ 2 := szb_int W64_gt z h
end Go.Proofs.YtgokbhikgdhmpaaGreatDoor.Ma
namespace Go.Proofs.YtgokbhikgdhmpaaGreatDoor.Ma
open Me
theorem dg_dec (N : Nat) : dg W64 N ≤ (dec N).length := by
 rw [dec_length]
 split
 ·rename_i h; subst h; rw [dg_zero]; omega
 ·rw [dg_le_iff W64_gt]
  have h1 := lt_pow_dg (b := 10) (by decide) N
  exact Nat.lt_of_lt_of_le h1 (Nat.pow_le_pow_left (by decide) _)
theorem sz_dig (q : Rat) : sz q ≤ 2 * digQ q := by
 have h1 := dg_dec q.num.natAbs
 have h2 := dg_dec q.den
 have h3 := sz_eq q
 unfold digQ; omega
theorem dg_pow_le {B k : Nat} (h : B ≤ W64) : dg W64 (B ^ k) ≤ k + 1 := by
 rw [dg_le_iff W64_gt, Nat.pow_succ]
 have h1 : B ^ k ≤ W64 ^ k := Nat.pow_le_pow_left h k
 have h2 : 0 < W64 ^ k := Nat.pow_pos (by decide)
 have : W64 ^ k * 1 < W64 ^ k * W64 := Nat.mul_lt_mul_of_pos_left (by decide) h2
 omega
theorem sz_ten (n : Int) : sz (tenQ n) ≤ n.natAbs + 2 := by
 have h1 := sz_eq (tenQ n)
 rw [← h1]
 rcases Int.le_total 0 n with h | h
 ·obtain ⟨k, rfl⟩ := Int.eq_ofNat_of_zero_le h
  obtain ⟨e1, e2⟩ := tenQ_parts_nat k
  rw [e1, e2, dg_one W64_gt]
  simp only [Int.natAbs_natCast]
  have := dg_pow_le (B := 10) (k := k) (by decide)
  omega
 ·obtain ⟨k, hk⟩ := Int.eq_ofNat_of_zero_le (show 0 ≤ -n by omega)
  have hn : n = -(k : Int) := by omega
  subst hn
  obtain ⟨e1, e2⟩ := tenQ_parts_neg k
  rw [e1, e2]
  have := dg_pow_le (B := 10) (k := k) (by decide)
  have h2 : dg W64 (1 : Int).natAbs = 1 := dg_one W64_gt
  rw [h2]
  omega
theorem pw_parts_neg (n : Nat) : (pw (-(n : Int))).num = 1 ∧ (pw (-(n : Int))).den = 2 ^ n := by
 refine rat_of' (Nat.pow_pos (by decide)) (by simp) ?_
 rw [← pw_nat, Rat.mul_comm, pw_inv]; rfl
theorem sz_pw (n : Int) : sz (pw n) ≤ n.natAbs + 2 := by
 rw [← sz_eq (pw n)]
 rcases Int.le_total 0 n with h | h
 ·obtain ⟨k, rfl⟩ := Int.eq_ofNat_of_zero_le h
  rw [pw_nat, Rat.num_natCast, Rat.den_natCast, dg_one W64_gt]
  simp only [Int.natAbs_natCast]
  have := dg_pow_le (B := 2) (k := k) (by decide)
  omega
 ·obtain ⟨k, hk⟩ := Int.eq_ofNat_of_zero_le (show 0 ≤ -n by omega)
  have hn : n = -(k : Int) := by omega
  subst hn
  obtain ⟨e1, e2⟩ := pw_parts_neg k
  rw [e1, e2]
  have := dg_pow_le (B := 2) (k := k) (by decide)
  have h2 : dg W64 (1 : Int).natAbs = 1 := dg_one W64_gt
  rw [h2]
  omega
theorem sz_nat (n : Nat) : sz ((n : Nat) : Rat) = dg W64 n + 1 := by
 rw [← sz_eq, Rat.num_natCast, Rat.den_natCast, dg_one W64_gt, Int.natAbs_natCast]
theorem parse_dig {l : List UInt8} {q : Rat} (h : parseS l = (0, q)) : digQ q ≤ 1000 := by
 have h1 := parse_text h
 rw [← h1, parse_of_text] at h
 split at h
 ·assumption
 ·simp at h
theorem parse_sz {l : List UInt8} {q : Rat} (h : parseS l = (0, q)) : sz q ≤ 2000 := by
 have := parse_dig h
 have := sz_dig q
 omega
theorem parse_or (l : List UInt8) : (parseS l).1 = 0 ∨ (parseS l).2 = 0 := by
 unfold parseS parseR
 split
 ·exact .inr rfl
 split
 ·exact .inr rfl
 split
 ·exact .inr rfl
 split
 ·exact .inl rfl
 split
 ·exact .inr rfl
 ·exact .inl rfl
theorem sz_zero : sz 0 ≤ 2 := sz_int 0 (by decide)
theorem parse_sz' (l : List UInt8) : sz (parseS l).2 ≤ 2000 := by
 rcases parse_or l with h | h
 ·exact parse_sz (l := l) (by rw [← h])
 ·rw [h]; have := sz_zero; omega
theorem pfx_le {c : UInt8} {p : Int} (h : pfx c = some p) : p.natAbs ≤ 15 := by
 unfold pfx at h
 repeat' split at h
 all_goals first | (cases h; decide) | cases h
theorem cutP_le (l : List UInt8) : (cutP l).2.natAbs ≤ 15 := by
 unfold cutP
 split
 ·split
  ·rename_i h; exact pfx_le h
  ·exact Nat.zero_le _
 ·exact Nat.zero_le _
theorem dg_dv {l : List UInt8} (h : AllD l) {k : Nat} (hk : l.length ≤ k) : dg W64 (dv l) ≤ k := by
 rw [dg_le_iff W64_gt]
 have h6 := dv_lt h
 have h7 : (10 : Nat) ^ l.length ≤ 10 ^ k := Nat.pow_le_pow_right (by decide) hk
 have h8 : (10 : Nat) ^ k ≤ W64 ^ k := Nat.pow_le_pow_left (by decide) k
 omega
theorem bl_dg (N : Nat) : bl N ≤ 64 * dg W64 N := by
 have h := bl_le_dg 64 N (by decide)
 exact h
theorem dg_bl (N : Nat) : dg W64 N ≤ bl N := by
 rw [dg_le_iff W64_gt]
 have h1 := lt_pow_dg (b := 2) (by decide) N
 exact Nat.lt_of_lt_of_le h1 (Nat.pow_le_pow_left (by decide) _)
theorem ulp_le (b : Nat) (x : Rat) : (ulp b x).natAbs ≤ 64 * sz x + b + 1 := by
 have h1 := bl_dg x.num.natAbs
 have h2 := bl_dg x.den
 have h3 := sz_eq x
 unfold ulp rsh
 split <;> omega
theorem sz_dn_up_pos {b : Nat} {x : Rat} (hb : 0 < b) (hx : 0 < x) : sz (dn b x) ≤ 64 * sz x + 2 * b + 6 ∧ sz (up b x) ≤ 64 * sz x + 2 * b + 6 := by
 have h1 := (ulp_spec hx hb).1
 have h2 := ulp_le b x
 have h3 := sz_pw (ulp b x)
 rw [dn_pos hx, up_pos hx]
 generalize fl (ulp b x) x.num.natAbs x.den = k at *
 have h4 := dg_bl k
 have h5 : dg W64 (k + 1) ≤ b + 1 := by
  have := dg_add W64_gt k 1
  rw [dg_one W64_gt] at this
  omega
 constructor
 ·have h6 := sz_mul ((k : Nat) : Rat) (pw (ulp b x))
  have h7 := sz_nat k
  omega
 ·split
  ·have h6 := sz_mul ((k : Nat) : Rat) (pw (ulp b x))
   have h7 := sz_nat k
   rw [Nat.add_zero]
   omega
  ·have h6 := sz_mul ((k + 1 : Nat) : Rat) (pw (ulp b x))
   have h7 := sz_nat (k + 1)
   omega
theorem sz_dn_up {b : Nat} (x : Rat) (hb : 0 < b) : sz (dn b x) ≤ 64 * sz x + 2 * b + 6 ∧ sz (up b x) ≤ 64 * sz x + 2 * b + 6 := by
 rcases (show x < 0 ∨ x = 0 ∨ 0 < x by grind) with h | h | h
 ·have := sz_dn_up_pos hb (show 0 < -x by grind)
  rw [dn_neg, up_neg, sz_neg, sz_neg, sz_neg] at this
  exact ⟨this.2, this.1⟩
 ·subst h
  rw [dn_zero, up_zero]
  have := sz_zero
  constructor <;> omega
 ·exact sz_dn_up_pos hb h
end Go.Proofs.YtgokbhikgdhmpaaGreatDoor.Ma
namespace Go.Proofs.YtgokbhikgdhmpaaGreatDoor.Ma
open Me
def stepsN (b : Nat) (x : Rat) (away : Bool) : Nat := fl (ulp b x) x.num.natAbs x.den + if away = true ∧ ¬ fr (ulp b x) x.num.natAbs x.den = 0 then 1 else 0
def rnd (b : Nat) (x : Rat) (away : Bool) : Rat := if x = 0 then 0 else sgQ (decide (x < 0)) (((stepsN b x away : Nat) : Rat) * pw (ulp b x))
theorem stepsN_neg (b : Nat) (x : Rat) (away : Bool) : stepsN b (-x) away = stepsN b x away := by
 unfold stepsN; rw [ulp_neg, Rat.neg_num, Rat.neg_den, Int.natAbs_neg]
theorem rnd_dn (b : Nat) (x : Rat) : rnd b x (decide (x < 0)) = dn b x := by
 unfold rnd
 rcases (show x < 0 ∨ x = 0 ∨ 0 < x by grind) with h | h | h
 ·have h0 : ¬ x = 0 := by grind
  have hp : 0 < -x := by grind
  have h1 := up_pos (b := b) hp
  rw [up_neg] at h1
  rw [if_neg h0, decide_eq_true h]
  unfold sgQ
  rw [if_pos rfl, ← stepsN_neg, ← ulp_neg]
  unfold stepsN
  have e : (if true = true ∧ ¬ fr (ulp b (-x)) (-x).num.natAbs (-x).den = 0 then 1 else 0) = (if fr (ulp b (-x)) (-x).num.natAbs (-x).den = 0 then 0 else 1) := by
   by_cases hz : fr (ulp b (-x)) (-x).num.natAbs (-x).den = 0
   ·rw [if_neg (fun h => h.2 hz), if_pos hz]
   ·rw [if_pos ⟨rfl, hz⟩, if_neg hz]
  rw [e]
  rw [← h1, Rat.neg_neg]
 ·subst h; rw [if_pos rfl, dn_zero]
 ·have h0 : ¬ x = 0 := by grind
  rw [if_neg h0, decide_eq_false (by grind), dn_pos h]
  unfold sgQ stepsN
  simp
theorem scaled_up (s : Bool) (g k : Nat) : (sgQ s (((g : Nat) : Rat) * pw k)).num = (if s then -((g * 2 ^ k : Nat) : Int) else ((g * 2 ^ k : Nat) : Int)) ∧ (sgQ s (((g : Nat) : Rat) * pw k)).den = 1 := by
 rw [pw_nat, ← Rat.natCast_mul]
 unfold sgQ
 cases s
 ·simp only [Bool.false_eq_true, if_false]; exact ⟨Rat.num_natCast _, Rat.den_natCast _⟩
 ·simp only [if_true, Rat.neg_num, Rat.neg_den]; exact ⟨by rw [Rat.num_natCast], Rat.den_natCast _⟩
theorem scaled_down (s : Bool) {g : Nat} (k : Nat) (hg : 0 < g) : (sgQ s (((g : Nat) : Rat) * pw (-(k : Int)))).num = (if s then -((g / 2 ^ min (tz g) k : Nat) : Int) else ((g / 2 ^ min (tz g) k : Nat) : Int)) ∧ (sgQ s (((g : Nat) : Rat) * pw (-(k : Int)))).den = 2 ^ (k - min (tz g) k) := by
 obtain ⟨m, hm⟩ : ∃ m, min (tz g) k = m := ⟨_, rfl⟩
 rw [hm]
 obtain ⟨h1, h2⟩ := tz_spec hg
 have hd : 2 ^ m ∣ g := Nat.dvd_trans (Nat.pow_dvd_pow 2 (show m ≤ tz g by omega)) ⟨_, h1⟩
 obtain ⟨c, hc⟩ := hd
 have hq : g / 2 ^ m = c := by rw [hc, Nat.mul_div_cancel_left _ (two_pow_pos m)]
 rw [hq]
 have hcop : Nat.Coprime c (2 ^ (k - m)) := by
  rcases Nat.lt_or_ge (tz g) k with h | h
  ·have hmt : m = tz g := by omega
   have hodd : c % 2 = 1 := by rw [← hq, hmt]; exact h2
   exact (pow_coprime (k - m) hodd).symm
  ·rw [show k - m = 0 by omega]; simp
 have hv : ((g : Nat) : Rat) * pw (-(k : Int)) * ((2 ^ (k - m) : Nat) : Rat) = ((c : Nat) : Rat) := by
  rw [← pw_nat, Rat.mul_assoc, ← pw_add, show -(k : Int) + ((k - m : Nat) : Int) = -(m : Int) by omega, hc, Rat.natCast_mul, Rat.mul_comm (((2 ^ m : Nat)) : Rat), Rat.mul_assoc, ← pw_nat, pw_inv, Rat.mul_one]
 cases s
 ·simp only [sgQ, Bool.false_eq_true, if_false]
  exact rat_of' (two_pow_pos _) (by simpa using hcop) (by rw [Rat.intCast_natCast]; exact hv)
 ·simp only [sgQ, if_true]
  exact rat_of' (two_pow_pos _) (by simpa using hcop) (by rw [Rat.intCast_neg, Rat.intCast_natCast, Rat.neg_mul, hv])
def bitsN (z : Int) : Nat := if z < 1 then 1 else if 2000 < z then 2000 else z.toNat
theorem bitsN_pos (z : Int) : 0 < bitsN z ∧ bitsN z ≤ 2000 := by unfold bitsN; split <;> (try split) <;> omega
theorem ulp_cases {b : Nat} {x : Rat} : (b < bl (fl ((bl x.num.natAbs : Int) - bl x.den - b) x.num.natAbs x.den) ∧ ulp b x = (bl x.num.natAbs : Int) - bl x.den - b + 1) ∨ (¬ b < bl (fl ((bl x.num.natAbs : Int) - bl x.den - b) x.num.natAbs x.den) ∧ ulp b x = (bl x.num.natAbs : Int) - bl x.den - b) := by
 unfold ulp rsh
 by_cases h : b < bl (fl ((bl x.num.natAbs : Int) - bl x.den - b) x.num.natAbs x.den)
 ·left; exact ⟨h, by rw [if_pos h]⟩
 ·right; exact ⟨h, by rw [if_neg h]⟩
theorem rnd_parts {b : Nat} {x : Rat} {N D : Nat} {sh : Int} (away : Bool) (hx : x ≠ 0) (hb : 0 < b) (hN : x.num.natAbs = N) (hD : x.den = D) (hsh : (bl N : Int) - bl D - b = sh) :
    (b < bl (fl sh N D) → rnd b x away = sgQ (decide (x.num < 0)) (((fl sh N D / 2 + if away = true ∧ ¬ (fr sh N D = 0 ∧ fl sh N D % 2 = 0) then 1 else 0 : Nat) : Rat) * pw (sh + 1)) ∧ 0 < fl sh N D / 2) ∧
    (¬ b < bl (fl sh N D) → rnd b x away = sgQ (decide (x.num < 0)) (((fl sh N D + if away = true ∧ ¬ fr sh N D = 0 then 1 else 0 : Nat) : Rat) * pw sh)) ∧ 0 < fl sh N D ∧ bl (fl sh N D) ≤ b + 1 := by
  subst hN hD
  have hN0 : 0 < x.num.natAbs := by have : x.num ≠ 0 := fun h => hx (Rat.num_eq_zero.1 h); omega
  have hbits := fl_bits hN0 x.den_pos hb hsh.symm
  have hs : decide (x.num < 0) = decide (x < 0) := decide_eq_decide.2 (num_lt_iff x)
  have hpos : ∀ n : Nat, 0 < bl n → 0 < n := fun n h => by
    rcases Nat.eq_zero_or_pos n with h0 | h0
    · subst h0; rw [bl_zero] at h; omega
    · exact h0
  obtain ⟨f1, f2⟩ := fl_succ sh (N := x.num.natAbs) x.den_pos
  refine ⟨fun h => ⟨?_, ?_⟩, fun h => ?_, hpos _ (by omega), by omega⟩
  · rcases ulp_cases (b := b) (x := x) with ⟨-, hu⟩ | ⟨h1, -⟩
    · rw [hsh] at hu
      unfold rnd
      rw [if_neg hx, hs]
      unfold stepsN
      rw [hu, f1]
      have e : (away = true ∧ ¬ fr (sh + 1) x.num.natAbs x.den = 0) ↔ (away = true ∧ ¬ (fr sh x.num.natAbs x.den = 0 ∧ fl sh x.num.natAbs x.den % 2 = 0)) := by rw [f2]
      simp only [e]
    · rw [hsh] at h1; exact absurd h h1
  · exact hpos _ (by rw [bl_half]; omega)
  · rcases ulp_cases (b := b) (x := x) with ⟨h1, -⟩ | ⟨-, hu⟩
    · rw [hsh] at h1; exact absurd h1 h
    · rw [hsh] at hu
      unfold rnd
      rw [if_neg hx, hs]
      unfold stepsN
      rw [hu]
end Go.Proofs.YtgokbhikgdhmpaaGreatDoor.Ma
namespace Go.Proofs.YtgokbhikgdhmpaaGreatDoor.Ma
theorem dropWhile_zeros (n : Nat) (l : List UInt8) : (List.replicate n (48 : UInt8) ++ l).dropWhile (· == 48) = l.dropWhile (· == 48) := by
 induction n with
 | zero => simp
 | succ n ih => rw [List.replicate_succ, List.cons_append, List.dropWhile_cons_of_pos (by rfl), ih]
theorem dec_dropWhile {N : Nat} (h : 0 < N) : (dec N).dropWhile (· == 48) = dec N := by
 have hr := dec_row N
 cases hd : dec N with
 | nil => exact absurd hd hr.2.1
 | cons c t =>
  have hc : c ≠ 48 := fun h1 => by
   have h2 := hr.2.2 (by rw [hd, h1]; rfl)
   have := dec_eq_zero h2
   omega
  rw [List.dropWhile_cons_of_neg (by simpa using hc)]
theorem short_all (U : Nat) : (List.replicate 12 (48 : UInt8) ++ dec U).drop (dec U).length = pd 12 (U % 1000000000000) ∧
    ((List.replicate 12 (48 : UInt8) ++ dec U).take (dec U).length).dropWhile (· == 48) = if U / 1000000000000 = 0 then [] else dec (U / 1000000000000) := by
  rcases Nat.lt_or_ge U 1000000000000 with h | h
  · have h0 : U / 1000000000000 = 0 := Nat.div_eq_of_lt h
    have h1 := pd_small 12 U h (by decide)
    have hl := dec_len_le (b := 12) h
    have e : List.replicate 12 (48 : UInt8) ++ dec U = List.replicate (dec U).length 48 ++ pd 12 U := by
      rw [h1, ← List.append_assoc, List.replicate_append_replicate]
      congr 2
      omega
    rw [h0, if_pos rfl, Nat.mod_eq_of_lt h, e]
    refine ⟨List.drop_left' (by simp), ?_⟩
    rw [List.take_left' (by simp)]
    have := dropWhile_zeros (dec U).length []
    rw [List.append_nil] at this
    rw [this]; rfl
  · have hp : 0 < U / 1000000000000 := Nat.div_pos h (by decide)
    have e := dec_pd hp 12 (U % 1000000000000) (Nat.mod_lt _ (by decide))
    have hU : U / 1000000000000 * 10 ^ 12 + U % 1000000000000 = U := by have := Nat.div_add_mod U 1000000000000; omega
    rw [hU] at e
    have hl : (dec U).length = (dec (U / 1000000000000)).length + 12 := by rw [e, List.length_append, pd_length]
    rw [if_neg (by omega), hl, e, ← List.append_assoc]
    constructor
    · exact List.drop_left' (by rw [List.length_append, List.length_replicate]; omega)
    · rw [List.take_left' (by rw [List.length_append, List.length_replicate]; omega), dropWhile_zeros, dec_dropWhile hp]
theorem dec_hi_len (U : Nat) (h : 412 < (dec U).length) : 400 < (dec (U / 1000000000000)).length := by
 rcases Nat.lt_or_ge U 1000000000000 with h0 | h0
 ·have hl := dec_len_le (b := 12) h0
  omega
 ·have hp : 0 < U / 1000000000000 := Nat.div_pos h0 (by decide)
  have e := dec_pd hp 12 (U % 1000000000000) (Nat.mod_lt _ (by decide))
  have hU : U / 1000000000000 * 10 ^ 12 + U % 1000000000000 = U := by have := Nat.div_add_mod U 1000000000000; omega
  rw [hU] at e
  have hl : (dec U).length = (dec (U / 1000000000000)).length + 12 := by rw [e, List.length_append, pd_length]
  omega
theorem shortU_of {U : Nat} {f b : List UInt8} (hf : f = if U / 1000000000000 = 0 then [] else dec (U / 1000000000000)) (hb : b = rtrim (pd 12 (U % 1000000000000))) :
    shortU U = if 400 < (if f = [] then [48] else f).length + b.length then none else some ((if f = [] then [48] else f) ++ if b = [] then [] else 46 :: b) := by
  have e : (if f = [] then [48] else f) = dec (U / 1000000000000) := by
    by_cases h : U / 1000000000000 = 0
    · rw [if_pos h] at hf
      rw [if_pos hf, h, dec_zero]
    · rw [if_neg h] at hf
      rw [if_neg (by rw [hf]; exact dec_ne_nil _), hf]
  unfold shortU
  rw [e, hb]
end Go.Proofs.YtgokbhikgdhmpaaGreatDoor.Ma
