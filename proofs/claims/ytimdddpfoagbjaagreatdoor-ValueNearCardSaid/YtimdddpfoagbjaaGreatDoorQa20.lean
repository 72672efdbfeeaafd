/- Laws of values (P1.7, P1.8), each for every three strings; no condition. Part of the proof: texts Vf1 Vf2 Vf3 Vf4. -/
import Derived.BigQuiet
import Derived.Lib.IndexBytes
import Derived.Lib.IndexLaws
import Derived.WalkSpells
import Derived.Test.YtimdddpfoagbjaaGreatDoorQa19
namespace Go.Proofs.YtimdddpfoagbjaaGreatDoor
open Go.RowKit
open Ma Me
theorem ret_t3 {a b : Value} {x y : Bool} (h : x = y) : Ending.returned (.tuple #[a, b, .bool x]) = .returned (.tuple #[a, b, .bool y]) := by rw [h]
theorem toList_mk (l : List UInt8) : (⟨l.toArray⟩ : ByteArray).data.toList = l := rfl
theorem fore_at {l : List UInt8} {c : UInt8} {k : Nat} (h : l[k]? = some c) (hn : ∀ j, j < k → l[j]? ≠ some c) : fore c l = l.take k ∧ aft c l = l.drop (k + 1) ∧ c ∈ l := by
  have hk : k < l.length := by
    rcases Nat.lt_or_ge k l.length with h1 | h1
    · exact h1
    · rw [List.getElem?_eq_none h1] at h; cases h
  have e : l = l.take k ++ c :: l.drop (k + 1) := by
    have h1 : l[k] = c := by rw [List.getElem?_eq_getElem hk] at h; exact Option.some.inj h
    rw [← h1, ← List.drop_eq_getElem_cons hk, List.take_append_drop]
  have hc : c ∉ l.take k := by
    intro hm
    obtain ⟨j, hj, hj2⟩ := List.getElem_of_mem hm
    rw [List.length_take] at hj
    refine hn j (by omega) ?_
    rw [List.getElem_take] at hj2
    rw [List.getElem?_eq_getElem (by omega), hj2]
  have hf := fore_of (s := l.drop (k + 1)) hc
  rw [← e] at hf
  exact ⟨hf.1, hf.2, List.mem_of_getElem? h⟩
def CutRes (l : List UInt8) (c : UInt8) (w : World) (e : Ending) (w' : World) : Prop := ∃ a b : ByteArray, e = .returned (.tuple #[.string a, .string b, .bool (decide (c ∈ l))]) ∧ a.data.toList = fore c l ∧ b.data.toList = aft c l ∧ Q w w'
theorem v_lcut (s : ByteArray) (c : UInt8) (w : World) (hs : s.size ≤ 9223372036854775806) : Calls Tryz.prog 161 #[.string s, .string ⟨#[c]⟩] w (CutRes s.data.toList c w) := by
  have h1 := Lib.indexByte_ge s.data.toList c
  have h2 := @Lib.indexByte_none s.data.toList c
  have h3 := @Lib.indexByte_some s.data.toList c
  have hsz := Lib.size_eq s
  obtain ⟨i, hi⟩ : ∃ i, Lib.indexByte s.data.toList c = i := ⟨_, rfl⟩
  rw [hi] at h1 h2 h3
  rcases (by omega : i = -1 ∨ 0 ≤ i) with rfl | h0
  · have hn := h2 rfl
    have hnm : c ∉ s.data.toList := fun hm => by
      obtain ⟨j, hj, hj2⟩ := List.getElem_of_mem hm
      exact hn j (by rw [List.getElem?_eq_getElem hj, hj2])
    have HI := Lib.hid hi
    clear h1 h2 h3 hn hi
    obtain ⟨f1, f2⟩ := fore_all hnm
    have HF1 := Lib.hid f1; have HF2 := Lib.hid f2; have HN := Lib.hid hnm
    clear f1 f2 hnm hsz
    go_enter Tryz.func161, Tryz.ntmps161
    go_wp2_with fail
    refine (Tryz.stringslite_Index_one s c _).mono ?_
    rintro e w1 ⟨rfl, rfl⟩
    rw [HI.out]
    go_wp2_with fail
    go_ret3
    exact ⟨s, ⟨#[]⟩, ret_t3 (decide_eq_false HN.out).symm, HF1.out.symm, HF2.out.symm, Q.refl _⟩
  · obtain ⟨k, rfl⟩ := Int.eq_ofNat_of_zero_le h0
    obtain ⟨hk, hkn⟩ := h3 rfl
    obtain ⟨f1, f2, f3⟩ := fore_at hk hkn
    have hlt : k < s.size := by
      rw [hsz]
      rcases Nat.lt_or_ge k s.data.toList.length with h1 | h1
      · exact h1
      · rw [List.getElem?_eq_none h1] at hk; cases hk
    have HI := Lib.hid hi
    have HF1 := Lib.hid f1; have HF2 := Lib.hid f2; have HF3 := Lib.hid f3; have HSZ := Lib.hid hsz
    clear h1 h2 h3 hi f1 f2 f3 hk hkn hsz
    have q1 : (0 : Int) ≤ (k : Int) := by omega
    have q2 : (k : Int) ≤ (s.size : Int) := by omega
    have q3 : (0 : Int) ≤ (k : Int) + 1 := by omega
    have q4 : (k : Int) + 1 ≤ (s.size : Int) := by omega
    have q5 : IntKind.i64.wrap ((k : Int) + 1) = (k : Int) + 1 := IntWalk.i64_in _ (by omega)
    have q6 : ((k : Int) + 1).toNat = k + 1 := by omega
    go_enter Tryz.func161, Tryz.ntmps161
    go_wp2_with fail
    refine (Tryz.stringslite_Index_one s c _).mono ?_
    rintro e w1 ⟨rfl, rfl⟩
    rw [HI.out]
    go_wp2_with fail
    go_quiet (fail)
    go_wp2_with fail
    go_ret3
    exact ⟨s.extract 0 k, s.extract (k + 1) s.size, ret_t3 (decide_eq_true HF3.out).symm, by rw [Lib.extract_data, HF1.out]; simp, by rw [Lib.extract_to_end, HF2.out], (Q.refl _).drewN _⟩
theorem v_Cut (s : ByteArray) (c : UInt8) (w : World) (hs : s.size ≤ 9223372036854775806) : Calls Tryz.prog 99 #[.string s, .string ⟨#[c]⟩] w (CutRes s.data.toList c w) := by
  obtain ⟨t, ht⟩ : ∃ t, decide (c ∈ s.data.toList) = t := ⟨_, rfl⟩
  have HT := Lib.hid ht
  clear ht
  go_enter Tryz.func99, Tryz.ntmps99
  go_wp2_with fail
  refine (v_lcut s c _ hs).mono ?_
  rintro e w1 ⟨a, b, rfl, ha, hb, hq⟩
  rw [HT.out]
  have HA := Lib.hid ha; have HBb := Lib.hid hb
  clear ha hb
  go_wp2_with fail
  go_ret3
  exact ⟨a, b, ret_t3 HT.out.symm, HA.out, HBb.out, hq⟩
theorem neg_prefix (l : List UInt8) : Lib.hasPrefix l [45] = isNeg l ∧ Lib.trimPrefix l [45] = unsigned l := by
  have e : Lib.hasPrefix l [45] = isNeg l := by
    unfold Lib.hasPrefix isNeg
    cases l with
    | nil => rfl
    | cons c t =>
      simp [List.isPrefixOf]
      by_cases h : c = 45
      · subst h; rfl
      · rw [beq_eq_false_iff_ne.2 (fun h1 => h h1.symm), beq_eq_false_iff_ne.2 h]
  refine ⟨e, ?_⟩
  unfold Lib.trimPrefix unsigned
  rw [e]
  split
  · cases l <;> rfl
  · rfl
theorem v_minus_sign (s : ByteArray) (w : World) : Calls Tryz.prog 98 #[.string s, .string ⟨#[45]⟩] w fun e w' => ∃ a : ByteArray, e = .returned (.tuple #[.string a, .bool (isNeg s.data.toList)]) ∧ a.data.toList = unsigned s.data.toList ∧ a.size ≤ s.size ∧ w' = w := by
  refine (Tryz.strings_CutPrefix s ⟨#[45]⟩ w).mono ?_
  rintro e w' ⟨h1, h2⟩
  obtain ⟨e1, e2⟩ := neg_prefix s.data.toList
  have e1' : Lib.hasPrefix s.data.toList (⟨#[45]⟩ : ByteArray).data.toList = isNeg s.data.toList := e1
  have e2' : Lib.trimPrefix s.data.toList (⟨#[45]⟩ : ByteArray).data.toList = unsigned s.data.toList := e2
  rw [e1', e2'] at h1
  refine ⟨_, h1, rfl, ?_, h2⟩
  rw [Lib.size_eq, Lib.size_eq, toList_mk]
  unfold unsigned
  split
  · rw [List.length_tail]; omega
  · exact Nat.le_refl _
theorem row_first (s : ByteArray) (l : List UInt8) (hl : s.data.toList = l) (hpos : 0 < s.size) (hA : AllD l) : (s[0].toNat = 48 → decide (Row l) = ((s.size : Int) == 1)) ∧ (¬ s[0].toNat = 48 → decide (Row l) = true) := by
  have hsz := Lib.size_eq s
  rw [hl] at hsz
  have hh : l.head? = some s[0] := by
    rw [← hl, List.head?_eq_getElem?]
    have hp : 0 < s.data.toList.length := by rw [← Lib.size_eq]; exact hpos
    rw [List.getElem?_eq_getElem hp]; rfl
  have hne : l ≠ [] := fun h => by rw [h] at hh; cases hh
  constructor
  · intro h
    have h48 : s[0] = 48 := uint8_ext h
    rw [h48] at hh
    by_cases h1 : s.size = 1
    · have : l = [48] := by
        cases l with
        | nil => exact absurd rfl hne
        | cons c t =>
          simp at hh hsz
          have : t = [] := List.eq_nil_of_length_eq_zero (by omega)
          rw [hh, this]
      rw [decide_eq_true (show Row l from ⟨hA, hne, fun _ => this⟩), h1]; rfl
    · rw [decide_eq_false (show ¬ Row l from fun hr => h1 (by rw [hsz, hr.2.2 hh]; rfl))]
      exact (beq_eq_false_iff_ne.2 (by omega)).symm
  · intro h
    refine decide_eq_true ⟨hA, hne, fun h1 => absurd ?_ h⟩
    rw [hh] at h1
    rw [Option.some.inj h1]; rfl
theorem v_isRow (s : ByteArray) (w : World) : Calls Tryz.prog 100 #[.string s] w fun e w' => e = .returned (.bool (decide (Row s.data.toList))) ∧ Q w w' := by
  have hsz := Lib.size_eq s
  obtain ⟨l, hl⟩ : ∃ l, s.data.toList = l := ⟨_, rfl⟩
  rw [hl] at hsz ⊢
  by_cases h : AllD l ∧ l ≠ []
  · have ha : allDB l = true := decide_eq_true h
    have hpos : 0 < s.size := by rw [hsz]; exact List.length_pos_iff.2 h.2
    have hk := row_first s l hl hpos h.1
    have HA := Lib.hid ha; have HL := Lib.hid hl; have HK := Lib.hid hk
    clear ha hl h hsz hk
    go_enter Tryz.func100, Tryz.ntmps100
    go_wp2_with fail
    refine (v_allDigits s _).mono ?_
    rintro e w1 ⟨rfl, hq⟩
    rw [HL.out, HA.out]
    go_wp2_with fail
    · go_ret
      have h : (s[0].toNat : Int) = 48 := by assumption
      exact ⟨ret_bool (HK.out.1 (by omega)).symm, hq⟩
    · go_ret
      have h : ¬ (s[0].toNat : Int) = 48 := by assumption
      exact ⟨ret_bool (HK.out.2 (by omega)).symm, hq⟩
  · have ha : allDB l = false := decide_eq_false h
    have hr : decide (Row l) = false := decide_eq_false (fun hr => h ⟨hr.1, hr.2.1⟩)
    rw [hr]
    clear hr
    have HA := Lib.hid ha; have HL := Lib.hid hl
    clear ha hl h hsz
    go_enter Tryz.func100, Tryz.ntmps100
    go_wp2_with fail
    refine (v_allDigits s _).mono ?_
    rintro e w1 ⟨rfl, hq⟩
    rw [HL.out, HA.out]
    go_wp2_with fail
    go_ret
    exact ⟨rfl, hq⟩
end Go.Proofs.YtimdddpfoagbjaaGreatDoor
namespace Go.Proofs.YtimdddpfoagbjaaGreatDoor
open Go.RowKit
open Ma Me
theorem dec_len (N : Nat) : (dec N).length ≤ 20 * dg W64 N + 1 := by
  rw [dec_length]
  split
  · omega
  · have h : dg 10 N ≤ 20 * dg W64 N := by
      rw [dg_le_iff (by decide), Nat.pow_mul]
      exact Nat.lt_of_lt_of_le (lt_pow_dg W64_gt N) (Nat.pow_le_pow_left (by decide) _)
    omega
theorem sign_size {t : ByteArray} {p : Rat} (h : t.data.toList = signT p) : t.size ≤ 1 := by
  rw [Lib.size_eq, h]
  unfold signT
  split <;> decide
theorem dec_size {t : ByteArray} {N : Nat} (h : t.data.toList = dec N) (hN : dg W64 N ≤ 1000000000) : t.size ≤ 20000000001 := by
  rw [Lib.size_eq, h]
  have := dec_len N
  omega
theorem cat_list (a b : ByteArray) : (a ++ b).data.toList = a.data.toList ++ b.data.toList := by
  simp
theorem bt_ne {d : Nat} (h : ¬ d = 1) : bt d = d := if_neg h
theorem text_cat1 {a b : ByteArray} {p : Rat} (ha : a.data.toList = signT p) (hb : b.data.toList = dec p.num.natAbs) (hd : p.den = 1) : (a ++ b).data.toList = textQ p := by
  rw [cat_list, ha, hb, textQ_eq, if_pos hd, List.append_nil]
theorem text_cat2 {a b c : ByteArray} {p : Rat} (ha : a.data.toList = signT p) (hb : b.data.toList = dec p.num.natAbs) (hc : c.data.toList = dec (bt p.den)) (hd : ¬ p.den = 1) : (a ++ b ++ (⟨#[47]⟩ ++ c)).data.toList = textQ p := by
  rw [cat_list, cat_list, cat_list, ha, hb, hc, textQ_eq, if_neg hd, bt_ne hd, List.append_assoc]
  rfl
set_option maxRecDepth 100000 in
set_option maxHeartbeats 1000000 in
theorem q_signText (x : Value) (p : Rat) (w : World) (hx : Nq w x p) : Calls Tryz.prog 115 #[x] w fun e w' => ∃ t : ByteArray, e = .returned (.string t) ∧ t.data.toList = signT p ∧ Q w w' := by
  obtain ⟨s1, A1, n1, c1, A2, n2, c2, rfl, E1, Z1, O1, hxt, hxb⟩ := hx.form
  obtain ⟨w0, hW, hG0, hX0⟩ := boxes1 w s1 (.slice A1 n1 c1) (.slice A2 n2 c2)
  have he0 : s1 = decide (p < 0) := E1.out.trans (decide_eq_decide.2 (num_lt_iff p))
  by_cases hp : p < 0
  · have k0 : s1 = true := he0.trans (decide_eq_true hp)
    have HS := Lib.hid (if_pos hp : signT p = [45])
    subst k0
    clear he0 hp
    obtain ⟨x0, x1, x2⟩ := hX0.cells
    go_enter Tryz.func115, Tryz.ntmps115
    go_wp2_with fail
    go_ret
    exact ⟨⟨#[45]⟩, rfl, HS.out.symm, hG0⟩
  · have k0 : s1 = false := he0.trans (decide_eq_false hp)
    have HS := Lib.hid (if_neg hp : signT p = [])
    subst k0
    clear he0 hp
    obtain ⟨x0, x1, x2⟩ := hX0.cells
    go_enter Tryz.func115, Tryz.ntmps115
    go_wp2_with fail
    go_ret
    exact ⟨⟨#[]⟩, rfl, HS.out.symm, hG0⟩
set_option maxRecDepth 100000 in
set_option maxHeartbeats 1000000 in
theorem q_Text (x : Value) (p : Rat) (w : World) (hx : Nq w x p) (hB : sz p ≤ 1000000000) : Calls Tryz.prog 20 #[x] w fun e w' => ∃ t : ByteArray, e = .returned (.string t) ∧ t.data.toList = textQ p ∧ Q w w' := by
  obtain ⟨s1, A1, n1, c1, A2, n2, c2, rfl, E1, Z1, O1, hxt, hxb⟩ := hx.form
  obtain ⟨w0, hW, hG0, hX0⟩ := boxes1 w s1 (.slice A1 n1 c1) (.slice A2 n2 c2)
  have b1 : dg W64 p.num.natAbs ≤ 1000000000 := by have := sz_eq p; omega
  have b2 : dg W64 (bt p.den) ≤ 1000000000 := by have := sz_bt p; omega
  go_enter Tryz.func20, Tryz.ntmps20
  obtain ⟨x0, x1, x2⟩ := hX0.cells
  go_wp2_with fail
  clear hW
  clear x0 x1 x2
  obtain ⟨x0, x1, x2⟩ := hX0.cells
  refine wp_region_held_drew (S := fun W => W.cell? ⟨w.heap.size, 0, none⟩ = some (.bool s1) ∧ W.cell? ⟨w.heap.size, 1, none⟩ = some (.slice A1 n1 c1) ∧ W.cell? ⟨w.heap.size, 2, none⟩ = some (.slice A2 n2 c2)) (by kernel_rfl) (by exact ⟨x0, x1, x2⟩) (fun hHeld => ?_)
  refine wpAnyH_take (i := 0) (v := ?v0) rfl (by kernel_rfl) (by kernel_rfl) (by kernel_rfl) (fun _ _ _ h => h) (Or.inl ⟨by rfl, ?h0⟩) (by assumption) ?r0
  case h0 =>
    intro W hSw
    (try dsimp only at hSw)
    go_simp
    try (with_reducible rfl)
  try simp only [Act.put]
  try simp only [List.setIfInBounds_toArray]
  try simp only [List.set_cons_zero, List.set_cons_succ]
  refine wpAnyH_take (i := 2) (v := ?v2) rfl (by kernel_rfl) (by kernel_rfl) (by kernel_rfl) (fun _ _ _ h => h) (Or.inl ⟨by rfl, ?h2⟩) (by assumption) ?r2
  case h2 =>
    intro W hSw
    (try dsimp only at hSw)
    go_simp
    try (with_reducible rfl)
  try simp only [Act.put]
  try simp only [List.setIfInBounds_toArray]
  try simp only [List.set_cons_zero, List.set_cons_succ]
  refine wpAnyH_take (i := 3) (v := ?v3) rfl (by kernel_rfl) (by kernel_rfl) (by kernel_rfl) (fun _ _ _ h => h) (Or.inl ⟨by rfl, ?h3⟩) (by assumption) ?r3
  case h3 =>
    intro W hSw
    (try dsimp only at hSw)
    go_simp
    try (with_reducible rfl)
  try simp only [Act.put]
  try simp only [List.setIfInBounds_toArray]
  try simp only [List.set_cons_zero, List.set_cons_succ]
  refine wpAnyH_ready (rs := [1]) (by kernel_rfl) (by decide) (AllReadyH.cons rfl (fun K hK => ?_) AllReadyH.nil)
  go_simp
  (with_reducible refine (q_signText _ p _ (hx.q hG0.drew)).mono ?_)
  rintro e w1 ⟨ta, rfl, hta, hq1d⟩
  have hq1 : Q w0 w1 := (Q.refl w0).drew.trans hq1d
  have hG1 := hG0.trans hq1
  have hX1 := hX0.q hq1
  obtain ⟨x0, x1, x2⟩ := hX1.cells
  have sa := sign_size hta
  have HTA := Lib.hid hta
  clear hta
  go_wp2_with fail
  refine hK.out _ _ (by exact ⟨by assumption, by assumption, by assumption⟩) (fun hHeld => ?_)
  clear hK K
  try simp only [Act.put]
  try simp only [List.setIfInBounds_toArray]
  try simp only [List.set_cons_zero, List.set_cons_succ]
  refine wpAnyH_ready (rs := [4]) (by kernel_rfl) (by decide) (AllReadyH.cons rfl (fun K hK => ?_) AllReadyH.nil)
  go_simp
  (with_reducible refine (v_toDigits _ p.num.natAbs _ (hxt.q hG1) b1).mono ?_)
  rintro e w2 ⟨tb, rfl, htb, hq2⟩
  have hG2 := hG1.trans hq2
  have hX2 := hX1.q hq2
  obtain ⟨x0, x1, x2⟩ := hX2.cells
  have sb := dec_size htb b1
  have HTB := Lib.hid htb
  clear htb
  go_wp2_with fail
  refine hK.out _ _ (by exact ⟨by assumption, by assumption, by assumption⟩) (fun hHeld => ?_)
  clear hK K
  try simp only [Act.put]
  try simp only [List.setIfInBounds_toArray]
  try simp only [List.set_cons_zero, List.set_cons_succ]
  refine wpAnyH_ready (rs := [5]) (by kernel_rfl) (by decide) (AllReadyH.cons rfl (fun K hK => ?_) AllReadyH.nil)
  go_simp
  rw [if_neg (by have := sa; have := sb; omega)]
  go_simp
  refine hK.out _ _ (by exact ⟨by assumption, by assumption, by assumption⟩) (fun hHeld => ?_)
  clear hK K
  try simp only [Act.put]
  try simp only [List.setIfInBounds_toArray]
  try simp only [List.set_cons_zero, List.set_cons_succ]
  refine wpAnyH_take (i := 6) (v := ?v6) rfl (by kernel_rfl) (by kernel_rfl) (by kernel_rfl) (fun _ _ _ h => h) (Or.inl ⟨by rfl, ?h6⟩) (by assumption) ?r6
  case h6 =>
    intro W hSw
    (try dsimp only at hSw)
    go_simp
    try (with_reducible rfl)
  try simp only [Act.put]
  try simp only [List.setIfInBounds_toArray]
  try simp only [List.set_cons_zero, List.set_cons_succ]
  refine wpAnyH_done (by kernel_rfl) ?_ _
  all_goals
    obtain ⟨x0, x1, x2⟩ := hX2.cells
    go_wp2_with fail
    refine (q_whole _ p _ (hx.q hG2)).mono ?_
    rintro e w3 ⟨rfl, hq3⟩
    have hG3 := hG2.trans hq3
    have hX3 := hX2.q hq3
    clear x0 x1 x2
    obtain ⟨x0, x1, x2⟩ := hX3.cells
    by_cases hd : p.den = 1
    · rw [decide_eq_true hd]
      have HD := Lib.hid hd; clear hd
      go_wp2_with fail
      go_ret
      exact ⟨_, rfl, text_cat1 HTA.out HTB.out HD.out, hG3⟩
    · rw [decide_eq_false hd]
      have HD := Lib.hid hd; clear hd
      go_wp2_with fail
      refine (v_toDigits _ (bt p.den) _ (hxb.q hG3) b2).mono ?_
      rintro e w4 ⟨tc, rfl, htc, hq4⟩
      have hG4 := hG3.trans hq4
      have hX4 := hX3.q hq4
      clear x0 x1 x2
      have sc := dec_size htc b2; have HTC := Lib.hid htc; clear htc
      go_wp2_with fail
      go_ret
      exact ⟨_, rfl, text_cat2 HTA.out HTB.out HTC.out HD.out, hG4⟩
set_option maxRecDepth 100000 in
set_option maxHeartbeats 1000000 in
theorem q_tens (z : Int) (w : World) (hB : z.natAbs ≤ 1000000) : Calls Tryz.prog 124 #[.int .i64 z] w fun e w' => ∃ r, e = .returned r ∧ Nq w' r (tenQ z) ∧ Q w w' := by
  obtain ⟨w0, hW, hG0, hR0⟩ : ∃ W, w.alloc (.cells #[.bool false, .slice none 0 0, .slice none 0 0] 25) = W ∧ Q w W ∧ Nb W w.heap.size false (.slice none 0 0) (.slice none 0 0) := ⟨_, rfl, (Q.refl _).alloc _, Nb.new w _ _ _⟩
  by_cases hz0 : z < 0
  · obtain ⟨k, hk⟩ : ∃ k : Nat, (-z).toNat = k := ⟨_, rfl⟩
    have hzk : z = -(k : Int) := by omega
    have hnz : -z = (k : Int) := by omega
    have hpw : tenQ z = tenQ (-(k : Int)) := by rw [hzk]
    rw [hpw]
    have b1 : k + 9 ≤ LIM := by rw [LIM_eq]; omega
    have b2 : -1000000 ≤ z := by omega
    obtain ⟨p1, p2⟩ := tenQ_parts_neg k
    have HP1 := Lib.hid p1; have HP2 := Lib.hid p2; clear p1 p2 hpw hk hzk hB
    go_enter Tryz.func124, Tryz.ntmps124
    go_wp2_with fail
    clear hW
    refine (v_word 1 1 _ rfl (by decide)).mono ?_
    rintro e w1 ⟨t2, rfl, ht2, hq1, -⟩
    have hG1 := hG0.trans hq1
    have hR1 := hR0.q hq1
    obtain ⟨A6, n6, c6, rfl⟩ := ht2.form
    go_wp2_with fail
    refine (v_tenTo k _ _ rfl b1).mono ?_
    rintro e w2 ⟨t3, rfl, ht3, hq2, -⟩
    have hG2 := hG1.trans hq2
    have hR2 := hR1.q hq2
    have fz := hR2.frozen
    obtain ⟨r0, r1, r2⟩ := hR2.cells
    obtain ⟨A7, n7, c7, rfl⟩ := ht3.form
    go_wp2_with fail
    refine (v_fraction false _ _ 1 (10 ^ k) _ (ht2.q hq2) ht3).mono ?_
    rintro e w3 ⟨v5, rfl, hv5, hq3⟩
    have hG3 := hG2.trans hq3
    have hR3 := hR2.q hq3
    clear fz r0 r1 r2
    have fz := hR3.frozen
    obtain ⟨r0, r1, r2⟩ := hR3.cells
    obtain ⟨B1, d1, B2, d2, rfl, -, -⟩ := hv5.form
    have hv := Nq.made (q := tenQ (-(k : Int))) hv5 HP1.out (fun _ => HP2.out)
    generalize (decide (0 < 1) && false) = s4 at *
    generalize dg W64 (if 1 = 0 then 0 else bt (10 ^ k)) = m2 at *
    generalize dg W64 1 = m1 at *
    go_wp2_with fail
    obtain ⟨z0, z1, z2, hvF, hqF⟩ := Nq.store hR3 hv hG3 (Nat.le_refl _)
    unfold put3 at z0 z1 z2 hvF hqF
    refine bodyPost_ret (v := .agg #[.bool s4, .slice B1 m1 d1, .slice B2 m2 d2]) (by simp [results, Tryz.results124, go_sem, z0, z1, z2]) rfl ?_
    exact ⟨_, rfl, hvF, hqF⟩
  · obtain ⟨k, rfl⟩ := Int.eq_ofNat_of_zero_le (show 0 ≤ z by omega)
    have b1 : k + 9 ≤ LIM := by rw [LIM_eq]; omega
    obtain ⟨p1, p2⟩ := tenQ_parts_nat k
    have HP1 := Lib.hid p1; have HP2 := Lib.hid p2; clear p1 p2 hB
    go_enter Tryz.func124, Tryz.ntmps124
    go_wp2_with fail
    clear hW
    refine (v_tenTo k _ _ rfl b1).mono ?_
    rintro e w1 ⟨t3, rfl, ht3, hq1, -⟩
    have hG1 := hG0.trans hq1
    have hR1 := hR0.q hq1
    have fz := hR1.frozen
    obtain ⟨r0, r1, r2⟩ := hR1.cells
    obtain ⟨A7, n7, c7, rfl⟩ := ht3.form
    go_wp2_with fail
    refine (v_integral false _ (10 ^ k) _ ht3).mono ?_
    rintro e w2 ⟨v5, rfl, hv5, hq2⟩
    have hG2 := hG1.trans hq2
    have hR2 := hR1.q hq2
    clear fz r0 r1 r2
    have fz := hR2.frozen
    obtain ⟨r0, r1, r2⟩ := hR2.cells
    obtain ⟨B1, d1, B2, d2, rfl, -, -⟩ := hv5.form
    have hv := Nq.int (q := tenQ (k : Int)) hv5 HP1.out HP2.out
    generalize (decide (0 < 10 ^ k) && false) = s4 at *
    generalize dg W64 (10 ^ k) = m1 at *
    generalize dg W64 0 = m2 at *
    go_wp2_with fail
    obtain ⟨z0, z1, z2, hvF, hqF⟩ := Nq.store hR2 hv hG2 (Nat.le_refl _)
    unfold put3 at z0 z1 z2 hvF hqF
    refine bodyPost_ret (v := .agg #[.bool s4, .slice B1 m1 d1, .slice B2 m2 d2]) (by simp [results, Tryz.results124, go_sem, z0, z1, z2]) rfl ?_
    exact ⟨_, rfl, hvF, hqF⟩
end Go.Proofs.YtimdddpfoagbjaaGreatDoor
namespace Go.Proofs.YtimdddpfoagbjaaGreatDoor
open Go.RowKit
open Ma Me
theorem pR_zero {neg two : Bool} {f b : List UInt8} (_ : Row f) (hz : f = [48]) (h : neg = true ∨ two = true) : parseR neg f b two = (6, 0) := if_pos (.inr ⟨hz, h⟩)
theorem pR_no {neg two : Bool} {f : List UInt8} (hr : Row f) (hz : f = [48] ∧ (neg = true ∨ two = true) → False) : ¬ (¬ Row f ∨ (f = [48] ∧ (neg = true ∨ two = true))) := fun h => by
  rcases h with h | h
  · exact h hr
  · exact hz h
theorem pR_two {neg : Bool} {f b : List UInt8} (hr : Row f) (hz : f = [48] ∧ (neg = true ∨ true = true) → False) (h : ¬ Row b ∨ b = [48] ∨ b = [49]) : parseR neg f b true = (6, 0) := by
  unfold parseR
  rw [if_neg (pR_no hr hz), if_pos ⟨rfl, h⟩]
theorem pR_ok {neg two : Bool} {f b : List UInt8} (hr : Row f) (hz : f = [48] ∧ (neg = true ∨ two = true) → False) (h : two = true → ¬ (¬ Row b ∨ b = [48] ∨ b = [49])) :
    parseR neg f b two = if 1000 < f.length ∨ 1000 < b.length then (3, 0) else if two = false then (0, mkQ neg (dv f) 1) else if Nat.gcd (dv f) (dv b) ≠ 1 then (6, 0) else (0, mkQ neg (dv f) (dv b)) := by
  unfold parseR
  rw [if_neg (pR_no hr hz), if_neg (fun h1 => h h1.1 h1.2)]
theorem pR_long {neg two : Bool} {f b : List UInt8} (hl : 1000 < f.length ∨ 1000 < b.length) (hr : Row f) (hz : f = [48] ∧ (neg = true ∨ two = true) → False) (h : two = true → ¬ (¬ Row b ∨ b = [48] ∨ b = [49])) : parseR neg f b two = (3, 0) := by
  rw [pR_ok hr hz h, if_pos hl]
theorem pR_int {neg : Bool} {f b : List UInt8} (hr : Row f) (hz : f = [48] ∧ (neg = true ∨ false = true) → False) (h1 : ¬ 1000 < f.length) (h2 : ¬ 1000 < b.length) : parseR neg f b false = (0, mkQ neg (dv f) 1) := by
  rw [pR_ok hr hz (fun h => by cases h), if_neg (fun h => h.elim h1 h2), if_pos rfl]
theorem pR_frac {neg : Bool} {f b : List UInt8} (hr : Row f) (hz : f = [48] ∧ (neg = true ∨ true = true) → False) (h : ¬ (¬ Row b ∨ b = [48] ∨ b = [49])) (h1 : ¬ 1000 < f.length) (h2 : ¬ 1000 < b.length) (hg : Nat.gcd (dv f) (dv b) = 1) : parseR neg f b true = (0, mkQ neg (dv f) (dv b)) := by
  rw [pR_ok hr hz (fun _ => h), if_neg (fun h => h.elim h1 h2), if_neg (by decide), if_neg (fun h => h hg)]
theorem pR_gcd {neg : Bool} {f b : List UInt8} (hr : Row f) (hz : f = [48] ∧ (neg = true ∨ true = true) → False) (h : ¬ (¬ Row b ∨ b = [48] ∨ b = [49])) (h1 : ¬ 1000 < f.length) (h2 : ¬ 1000 < b.length) (hg : ¬ Nat.gcd (dv f) (dv b) = 1) : parseR neg f b true = (6, 0) := by
  rw [pR_ok hr hz (fun _ => h), if_neg (fun h => h.elim h1 h2), if_neg (by decide), if_pos hg]
set_option maxRecDepth 100000 in
set_option maxHeartbeats 4000000 in
theorem q_Parse (s : ByteArray) (w : World) (hT : Tb w) (hs : s.size ≤ 9223372036854775806) : Calls Tryz.prog 16 #[.string s] w fun e w' => ∃ r, e = .returned (.tuple #[r, .int .i64 (parseS s.data.toList).1]) ∧ Nq w' r (parseS s.data.toList).2 ∧ Q w w' := by
  obtain ⟨w0, hW, hG0, hR0⟩ : ∃ W, w.alloc (.cells #[.bool false, .slice none 0 0, .slice none 0 0] 25) = W ∧ Q w W ∧ Nb W w.heap.size false (.slice none 0 0) (.slice none 0 0) := ⟨_, rfl, (Q.refl _).alloc _, Nb.new w _ _ _⟩
  obtain ⟨neg, hneg⟩ : ∃ neg, isNeg s.data.toList = neg := ⟨_, rfl⟩
  obtain ⟨two, htwo⟩ : ∃ two, decide (47 ∈ unsigned s.data.toList) = two := ⟨_, rfl⟩
  obtain ⟨f, hf⟩ : ∃ f, fore 47 (unsigned s.data.toList) = f := ⟨_, rfl⟩
  obtain ⟨b, hb⟩ : ∃ b, aft 47 (unsigned s.data.toList) = b := ⟨_, rfl⟩
  have hb2 : two = false → b = [] := fun h => by rw [← hb]; exact (fore_all (of_decide_eq_false (htwo.trans h))).2
  have hP : parseS s.data.toList = parseR neg f b two := by unfold parseS; rw [hneg, htwo, hf, hb]
  have HP := Lib.hid hP; have HN := Lib.hid hneg; have HT2 := Lib.hid htwo; have HF := Lib.hid hf; have HBb := Lib.hid hb; have HB2 := Lib.hid hb2
  clear hP hneg htwo hf hb hb2
  go_enter Tryz.func16, Tryz.ntmps16
  go_wp2_with fail
  clear hW
  refine (v_minus_sign s _).mono ?_
  rintro e w90 ⟨a, rfl, ha, hsz, rfl⟩
  rw [HN.out]
  have HA := Lib.hid ha; clear ha
  go_wp2_with fail
  refine (v_Cut a 47 _ (by omega)).mono ?_
  rintro e w1 ⟨fa, fb, rfl, hfa, hfb, hq1⟩
  have hG1 := hG0.trans hq1
  have hR1 := hR0.q hq1
  rw [HA.out] at hfa hfb ⊢
  rw [HT2.out]
  rw [HF.out] at hfa
  rw [HBb.out] at hfb
  have la : fa.size = f.length := by rw [Lib.size_eq, hfa]
  have lb : fb.size = b.length := by rw [Lib.size_eq, hfb]
  have ta : fa.toList = f := (ByteArray.toList_eq _).trans hfa
  have tb : fb.toList = b := (ByteArray.toList_eq _).trans hfb
  have HFA := Lib.hid hfa; have HFB := Lib.hid hfb; have LA := Lib.hid la; have LB := Lib.hid lb; have TA := Lib.hid ta; have TB := Lib.hid tb; clear hfa hfb la lb ta tb
  go_wp2_with fail
  refine (v_isRow fa _).mono ?_
  rintro e w2 ⟨rfl, hq2⟩
  have hG2 := hG1.trans hq2
  have hR2 := hR1.q hq2
  rw [HFA.out]
  by_cases hr : Row f
  · rw [decide_eq_true hr]
    by_cases hz : f = [48]
    · have tz0 : fa.toList = [48] := TA.out.trans hz
      have HZ := Lib.hid hz; clear hz
      cases neg
      · cases two
        · have hbn : b = [] := HB2.out rfl
          have hfb0 : ¬ (1000 : Int) < (fb.size : Int) := by rw [LB.out, hbn]; decide
          have HBN := Lib.hid hbn; clear hbn
          by_cases hl : 1000 < f.length
          · have hl2 : (1000 : Int) < (fa.size : Int) := by rw [LA.out]; omega
            have HLL := Lib.hid hl; clear hl
            have fz := hR2.frozen
            obtain ⟨r0, r1, r2⟩ := hR2.cells
            go_wp2_with fail
            have hv := nq_zero w2
            obtain ⟨z0, z1, z2, hvF, hqF⟩ := Nq.store hR2 hv hG2 (Nat.le_refl _)
            unfold put3 at z0 z1 z2 hvF hqF
            refine bodyPost_ret (v := .tuple #[.agg #[.bool false, .slice none 0 0, .slice none 0 0], .int .i64 3]) (by simp [results, Tryz.results16, go_sem, z0, z1, z2]) rfl ?_
            have hres : parseR false f b false = ((3 : Int), (0 : Rat)) := pR_long (.inl HLL.out) hr (fun h => by rcases h.2 with h | h <;> cases h) (fun h => by cases h)
            rw [HP.out, hres]
            exact ⟨_, rfl, hvF, hqF⟩
          · have hl2 : ¬ (1000 : Int) < (fa.size : Int) := by rw [LA.out]; omega
            have hsf : fa.size + 100 ≤ LIM := by rw [LA.out, LIM_eq]; omega
            have HLL := Lib.hid hl; clear hl
            go_wp2_with fail
            refine (v_fromDigits fa _ (by rw [HFA.out]; exact hr.1) hsf).mono ?_
            rintro e w3 ⟨t1, rfl, ht1, hq3, -⟩
            have hG3 := hG2.trans hq3
            have hR3 := hR2.q hq3
            have fz := hR3.frozen
            obtain ⟨r0, r1, r2⟩ := hR3.cells
            rw [HFA.out] at ht1
            obtain ⟨A5, n5, c5, rfl⟩ := ht1.form
            go_wp2_with fail
            refine (v_integral false _ (dv f) _ ht1).mono ?_
            rintro e w4 ⟨v5, rfl, hv5, hq4⟩
            have hG4 := hG3.trans hq4
            have hR4 := hR3.q hq4
            clear fz r0 r1 r2
            have fz := hR4.frozen
            obtain ⟨r0, r1, r2⟩ := hR4.cells
            obtain ⟨B1, d1, B2, d2, rfl, -, -⟩ := hv5.form
            have hv := Nq.int (q := mkQ false (dv f) 1) hv5 ((mkQ_parts (by decide) (Nat.gcd_one_right _)).1) ((mkQ_parts (by decide) (Nat.gcd_one_right _)).2)
            generalize (decide (0 < dv f) && false) = s4 at *
            generalize dg W64 (dv f) = m1 at *
            generalize dg W64 0 = m2 at *
            go_wp2_with fail
            obtain ⟨z0, z1, z2, hvF, hqF⟩ := Nq.store hR4 hv hG4 (Nat.le_refl _)
            unfold put3 at z0 z1 z2 hvF hqF
            refine bodyPost_ret (v := .tuple #[.agg #[.bool s4, .slice B1 m1 d1, .slice B2 m2 d2], .int .i64 0]) (by simp [results, Tryz.results16, go_sem, z0, z1, z2]) rfl ?_
            have hres : parseR false f b false = ((0 : Int), (mkQ false (dv f) 1 : Rat)) := pR_int hr (fun h => by rcases h.2 with h | h <;> cases h) HLL.out (by rw [HBN.out]; decide)
            rw [HP.out, hres]
            exact ⟨_, rfl, hvF, hqF⟩
        · have fz := hR2.frozen
          obtain ⟨r0, r1, r2⟩ := hR2.cells
          go_wp2_with fail
          have hv := nq_zero w2
          obtain ⟨z0, z1, z2, hvF, hqF⟩ := Nq.store hR2 hv hG2 (Nat.le_refl _)
          unfold put3 at z0 z1 z2 hvF hqF
          refine bodyPost_ret (v := .tuple #[.agg #[.bool false, .slice none 0 0, .slice none 0 0], .int .i64 6]) (by simp [results, Tryz.results16, go_sem, z0, z1, z2]) rfl ?_
          have hres : parseR false f b true = ((6 : Int), (0 : Rat)) := pR_zero hr HZ.out (.inr rfl)
          rw [HP.out, hres]
          exact ⟨_, rfl, hvF, hqF⟩
      · have fz := hR2.frozen
        obtain ⟨r0, r1, r2⟩ := hR2.cells
        go_wp2_with fail
        have hv := nq_zero w2
        obtain ⟨z0, z1, z2, hvF, hqF⟩ := Nq.store hR2 hv hG2 (Nat.le_refl _)
        unfold put3 at z0 z1 z2 hvF hqF
        refine bodyPost_ret (v := .tuple #[.agg #[.bool false, .slice none 0 0, .slice none 0 0], .int .i64 6]) (by simp [results, Tryz.results16, go_sem, z0, z1, z2]) rfl ?_
        have hres : parseR true f b two = ((6 : Int), (0 : Rat)) := pR_zero hr HZ.out (.inl rfl)
        rw [HP.out, hres]
        exact ⟨_, rfl, hvF, hqF⟩
    · have tz0 : ¬ fa.toList = [48] := fun h => hz (TA.out.symm.trans h)
      have tc : (fa.toList == [48]) = false := beq_eq_false_iff_ne.2 tz0
      have HZ := Lib.hid hz; clear hz
      cases two
      · have hbn : b = [] := HB2.out rfl
        have hfb0 : ¬ (1000 : Int) < (fb.size : Int) := by rw [LB.out, hbn]; decide
        have HBN := Lib.hid hbn; clear hbn
        by_cases hl : 1000 < f.length
        · have hl2 : (1000 : Int) < (fa.size : Int) := by rw [LA.out]; omega
          have HLL := Lib.hid hl; clear hl
          have fz := hR2.frozen
          obtain ⟨r0, r1, r2⟩ := hR2.cells
          go_wp2_with fail
          have hv := nq_zero w2
          obtain ⟨z0, z1, z2, hvF, hqF⟩ := Nq.store hR2 hv hG2 (Nat.le_refl _)
          unfold put3 at z0 z1 z2 hvF hqF
          refine bodyPost_ret (v := .tuple #[.agg #[.bool false, .slice none 0 0, .slice none 0 0], .int .i64 3]) (by simp [results, Tryz.results16, go_sem, z0, z1, z2]) rfl ?_
          have hres : parseR neg f b false = ((3 : Int), (0 : Rat)) := pR_long (.inl HLL.out) hr (fun h => HZ.out h.1) (fun h => by cases h)
          rw [HP.out, hres]
          exact ⟨_, rfl, hvF, hqF⟩
        · have hl2 : ¬ (1000 : Int) < (fa.size : Int) := by rw [LA.out]; omega
          have hsf : fa.size + 100 ≤ LIM := by rw [LA.out, LIM_eq]; omega
          have HLL := Lib.hid hl; clear hl
          go_wp2_with fail
          refine (v_fromDigits fa _ (by rw [HFA.out]; exact hr.1) hsf).mono ?_
          rintro e w3 ⟨t1, rfl, ht1, hq3, -⟩
          have hG3 := hG2.trans hq3
          have hR3 := hR2.q hq3
          have fz := hR3.frozen
          obtain ⟨r0, r1, r2⟩ := hR3.cells
          rw [HFA.out] at ht1
          obtain ⟨A5, n5, c5, rfl⟩ := ht1.form
          go_wp2_with fail
          refine (v_integral neg _ (dv f) _ ht1).mono ?_
          rintro e w4 ⟨v5, rfl, hv5, hq4⟩
          have hG4 := hG3.trans hq4
          have hR4 := hR3.q hq4
          clear fz r0 r1 r2
          have fz := hR4.frozen
          obtain ⟨r0, r1, r2⟩ := hR4.cells
          obtain ⟨B1, d1, B2, d2, rfl, -, -⟩ := hv5.form
          have hv := Nq.int (q := mkQ neg (dv f) 1) hv5 ((mkQ_parts (by decide) (Nat.gcd_one_right _)).1) ((mkQ_parts (by decide) (Nat.gcd_one_right _)).2)
          generalize (decide (0 < dv f) && neg) = s4 at *
          generalize dg W64 (dv f) = m1 at *
          generalize dg W64 0 = m2 at *
          go_wp2_with fail
          obtain ⟨z0, z1, z2, hvF, hqF⟩ := Nq.store hR4 hv hG4 (Nat.le_refl _)
          unfold put3 at z0 z1 z2 hvF hqF
          refine bodyPost_ret (v := .tuple #[.agg #[.bool s4, .slice B1 m1 d1, .slice B2 m2 d2], .int .i64 0]) (by simp [results, Tryz.results16, go_sem, z0, z1, z2]) rfl ?_
          have hres : parseR neg f b false = ((0 : Int), (mkQ neg (dv f) 1 : Rat)) := pR_int hr (fun h => HZ.out h.1) HLL.out (by rw [HBN.out]; decide)
          rw [HP.out, hres]
          exact ⟨_, rfl, hvF, hqF⟩
      · go_wp2_with fail
        refine (v_isRow fb _).mono ?_
        rintro e w3 ⟨rfl, hq3⟩
        have hG3 := hG2.trans hq3
        have hR3 := hR2.q hq3
        rw [HFB.out]
        by_cases hr2 : Row b
        · rw [decide_eq_true hr2]
          by_cases hb0 : b = [48]
          · have tb0 : fb.toList = [48] := TB.out.trans hb0
            have HB0 := Lib.hid hb0; clear hb0
            have fz := hR3.frozen
            obtain ⟨r0, r1, r2⟩ := hR3.cells
            go_wp2_with fail
            have hv := nq_zero w3
            obtain ⟨z0, z1, z2, hvF, hqF⟩ := Nq.store hR3 hv hG3 (Nat.le_refl _)
            unfold put3 at z0 z1 z2 hvF hqF
            refine bodyPost_ret (v := .tuple #[.agg #[.bool false, .slice none 0 0, .slice none 0 0], .int .i64 6]) (by simp [results, Tryz.results16, go_sem, z0, z1, z2]) rfl ?_
            have hres : parseR neg f b true = ((6 : Int), (0 : Rat)) := pR_two hr (fun h => HZ.out h.1) (.inr (.inl HB0.out))
            rw [HP.out, hres]
            exact ⟨_, rfl, hvF, hqF⟩
          · have tb0 : ¬ fb.toList = [48] := fun h => hb0 (TB.out.symm.trans h)
            have tc0 : (fb.toList == [48]) = false := beq_eq_false_iff_ne.2 tb0
            by_cases hb1 : b = [49]
            · have tb1 : fb.toList = [49] := TB.out.trans hb1
              have HB0 := Lib.hid hb1; clear hb1 hb0 tb0
              have fz := hR3.frozen
              obtain ⟨r0, r1, r2⟩ := hR3.cells
              go_wp2_with fail
              have hv := nq_zero w3
              obtain ⟨z0, z1, z2, hvF, hqF⟩ := Nq.store hR3 hv hG3 (Nat.le_refl _)
              unfold put3 at z0 z1 z2 hvF hqF
              refine bodyPost_ret (v := .tuple #[.agg #[.bool false, .slice none 0 0, .slice none 0 0], .int .i64 6]) (by simp [results, Tryz.results16, go_sem, z0, z1, z2]) rfl ?_
              have hres : parseR neg f b true = ((6 : Int), (0 : Rat)) := pR_two hr (fun h => HZ.out h.1) (.inr (.inr HB0.out))
              rw [HP.out, hres]
              exact ⟨_, rfl, hvF, hqF⟩
            · have tb1 : ¬ fb.toList = [49] := fun h => hb1 (TB.out.symm.trans h)
              have tc1 : (fb.toList == [49]) = false := beq_eq_false_iff_ne.2 tb1
              have hok : Hid (¬ (¬ Row b ∨ b = [48] ∨ b = [49])) := fun h => h.elim (fun h => h hr2) (fun h => h.elim hb0 hb1)
              have HB00 := Lib.hid hb0; clear hb0 hb1
              by_cases hl : 1000 < f.length
              · have hl2 : (1000 : Int) < (fa.size : Int) := by rw [LA.out]; omega
                have HLL := Lib.hid hl; clear hl
                have fz := hR3.frozen
                obtain ⟨r0, r1, r2⟩ := hR3.cells
                go_wp2_with fail
                have hv := nq_zero w3
                obtain ⟨z0, z1, z2, hvF, hqF⟩ := Nq.store hR3 hv hG3 (Nat.le_refl _)
                unfold put3 at z0 z1 z2 hvF hqF
                refine bodyPost_ret (v := .tuple #[.agg #[.bool false, .slice none 0 0, .slice none 0 0], .int .i64 3]) (by simp [results, Tryz.results16, go_sem, z0, z1, z2]) rfl ?_
                have hres : parseR neg f b true = ((3 : Int), (0 : Rat)) := pR_long (.inl HLL.out) hr (fun h => HZ.out h.1) (fun _ => hok.out)
                rw [HP.out, hres]
                exact ⟨_, rfl, hvF, hqF⟩
              · have hl2 : ¬ (1000 : Int) < (fa.size : Int) := by rw [LA.out]; omega
                have hsf : fa.size + 100 ≤ LIM := by rw [LA.out, LIM_eq]; omega
                have HLL := Lib.hid hl; clear hl
                by_cases hl3 : 1000 < b.length
                · have hl4 : (1000 : Int) < (fb.size : Int) := by rw [LB.out]; omega
                  have HL3 := Lib.hid hl3; clear hl3
                  have fz := hR3.frozen
                  obtain ⟨r0, r1, r2⟩ := hR3.cells
                  go_wp2_with fail
                  have hv := nq_zero w3
                  obtain ⟨z0, z1, z2, hvF, hqF⟩ := Nq.store hR3 hv hG3 (Nat.le_refl _)
                  unfold put3 at z0 z1 z2 hvF hqF
                  refine bodyPost_ret (v := .tuple #[.agg #[.bool false, .slice none 0 0, .slice none 0 0], .int .i64 3]) (by simp [results, Tryz.results16, go_sem, z0, z1, z2]) rfl ?_
                  have hres : parseR neg f b true = ((3 : Int), (0 : Rat)) := pR_long (.inr HL3.out) hr (fun h => HZ.out h.1) (fun _ => hok.out)
                  rw [HP.out, hres]
                  exact ⟨_, rfl, hvF, hqF⟩
                · have hl4 : ¬ (1000 : Int) < (fb.size : Int) := by rw [LB.out]; omega
                  have hsb : fb.size + 100 ≤ LIM := by rw [LB.out, LIM_eq]; omega
                  have HL3 := Lib.hid hl3; clear hl3
                  go_wp2_with fail
                  refine (v_fromDigits fa _ (by rw [HFA.out]; exact hr.1) hsf).mono ?_
                  rintro e w4 ⟨t1, rfl, ht1, hq4, -⟩
                  have hG4 := hG3.trans hq4
                  have hR4 := hR3.q hq4
                  rw [HFA.out] at ht1
                  obtain ⟨A5, n5, c5, rfl⟩ := ht1.form
                  go_wp2_with fail
                  refine (v_fromDigits fb _ (by rw [HFB.out]; exact hr2.1) hsb).mono ?_
                  rintro e w5 ⟨t2, rfl, ht2, hq5, -⟩
                  have hG5 := hG4.trans hq5
                  have hR5 := hR4.q hq5
                  rw [HFB.out] at ht2
                  obtain ⟨A6, n6, c6, rfl⟩ := ht2.form
                  have d1 := dg_dv hr.1 (Nat.le_of_not_lt HLL.out)
                  have d2 := dg_dv hr2.1 (Nat.le_of_not_lt HL3.out)
                  have hp1 : 0 < dv f := Row.pos hr (HZ.out)
                  have hp2 : 0 < dv b := Row.pos hr2 HB00.out
                  have hbd : 8 * (dg W64 (dv f) + dg W64 (dv b)) + 80 ≤ LIM := by rw [LIM_eq]; omega
                  clear d1 d2
                  go_wp2_with fail
                  refine (v_divisor (dv f) (dv b) _ _ _ (hT.q hG5) (ht1.q hq5) ht2 hp1 hp2 hbd).mono ?_
                  rintro e w6 ⟨t3, rfl, ht3, hq6, -⟩
                  have hG6 := hG5.trans hq6
                  have hR6 := hR5.q hq6
                  obtain ⟨A7, n7, c7, rfl⟩ := ht3.form
                  go_wp2_with fail
                  refine (v_isOne _ _ _ ht3).mono ?_
                  rintro e w91 ⟨rfl, rfl⟩
                  by_cases hg : Nat.gcd (dv f) (dv b) = 1
                  · rw [decide_eq_true hg]
                    have HGC := Lib.hid hg; clear hg
                    go_wp2_with fail
                    refine (v_fraction neg _ _ (dv f) (dv b) _ ((ht1.q hq5).q hq6) (ht2.q hq6)).mono ?_
                    rintro e w7 ⟨v5, rfl, hv5, hq7⟩
                    have hG7 := hG6.trans hq7
                    have hR7 := hR6.q hq7
                    have fz := hR7.frozen
                    obtain ⟨r0, r1, r2⟩ := hR7.cells
                    obtain ⟨B1, d1, B2, d2, rfl, -, -⟩ := hv5.form
                    have hv := Nq.made (q := mkQ neg (dv f) (dv b)) hv5 ((mkQ_parts hp2 HGC.out).1) (fun _ => (mkQ_parts hp2 HGC.out).2)
                    generalize (decide (0 < dv f) && neg) = s4 at *
                    generalize dg W64 (if dv f = 0 then 0 else bt (dv b)) = m2 at *
                    generalize dg W64 (dv f) = m1 at *
                    go_wp2_with fail
                    obtain ⟨z0, z1, z2, hvF, hqF⟩ := Nq.store hR7 hv hG7 (Nat.le_refl _)
                    unfold put3 at z0 z1 z2 hvF hqF
                    refine bodyPost_ret (v := .tuple #[.agg #[.bool s4, .slice B1 m1 d1, .slice B2 m2 d2], .int .i64 0]) (by simp [results, Tryz.results16, go_sem, z0, z1, z2]) rfl ?_
                    have hres : parseR neg f b true = ((0 : Int), (mkQ neg (dv f) (dv b) : Rat)) := pR_frac hr (fun h => HZ.out h.1) hok.out HLL.out HL3.out HGC.out
                    rw [HP.out, hres]
                    exact ⟨_, rfl, hvF, hqF⟩
                  · rw [decide_eq_false hg]
                    have HGC := Lib.hid hg; clear hg
                    have fz := hR6.frozen
                    obtain ⟨r0, r1, r2⟩ := hR6.cells
                    go_wp2_with fail
                    have hv := nq_zero w6
                    obtain ⟨z0, z1, z2, hvF, hqF⟩ := Nq.store hR6 hv hG6 (Nat.le_refl _)
                    unfold put3 at z0 z1 z2 hvF hqF
                    refine bodyPost_ret (v := .tuple #[.agg #[.bool false, .slice none 0 0, .slice none 0 0], .int .i64 6]) (by simp [results, Tryz.results16, go_sem, z0, z1, z2]) rfl ?_
                    have hres : parseR neg f b true = ((6 : Int), (0 : Rat)) := pR_gcd hr (fun h => HZ.out h.1) hok.out HLL.out HL3.out HGC.out
                    rw [HP.out, hres]
                    exact ⟨_, rfl, hvF, hqF⟩
        · rw [decide_eq_false hr2]
          have fz := hR3.frozen
          obtain ⟨r0, r1, r2⟩ := hR3.cells
          go_wp2_with fail
          have hv := nq_zero w3
          obtain ⟨z0, z1, z2, hvF, hqF⟩ := Nq.store hR3 hv hG3 (Nat.le_refl _)
          unfold put3 at z0 z1 z2 hvF hqF
          refine bodyPost_ret (v := .tuple #[.agg #[.bool false, .slice none 0 0, .slice none 0 0], .int .i64 6]) (by simp [results, Tryz.results16, go_sem, z0, z1, z2]) rfl ?_
          have hres : parseR neg f b true = ((6 : Int), (0 : Rat)) := pR_two hr (fun h => HZ.out h.1) (.inl hr2)
          rw [HP.out, hres]
          exact ⟨_, rfl, hvF, hqF⟩
  · rw [decide_eq_false hr]
    have fz := hR2.frozen
    obtain ⟨r0, r1, r2⟩ := hR2.cells
    go_wp2_with fail
    have hv := nq_zero w2
    obtain ⟨z0, z1, z2, hvF, hqF⟩ := Nq.store hR2 hv hG2 (Nat.le_refl _)
    unfold put3 at z0 z1 z2 hvF hqF
    refine bodyPost_ret (v := .tuple #[.agg #[.bool false, .slice none 0 0, .slice none 0 0], .int .i64 6]) (by simp [results, Tryz.results16, go_sem, z0, z1, z2]) rfl ?_
    have hres : parseR neg f b two = ((6 : Int), (0 : Rat)) := if_pos (.inl hr)
    rw [HP.out, hres]
    exact ⟨_, rfl, hvF, hqF⟩
end Go.Proofs.YtimdddpfoagbjaaGreatDoor
namespace Go.Proofs.YtimdddpfoagbjaaGreatDoor
open Go.RowKit
open Ma Me
def pxLet (k : Nat) : ByteArray := ⟨(letter k).toArray⟩
def pxPow (k : Nat) : Int := 3 * (k : Int) - 15
def pxRow (k : Nat) : Value := .agg #[.string (pxLet k), .int .i64 (pxPow k)]
def pxCells : Array Value := #[.string (pxLet 0), .int .i64 (pxPow 0), .string (pxLet 1), .int .i64 (pxPow 1), .string (pxLet 2), .int .i64 (pxPow 2), .string (pxLet 3), .int .i64 (pxPow 3), .string (pxLet 4), .int .i64 (pxPow 4),
  .string (pxLet 5), .int .i64 (pxPow 5), .string (pxLet 6), .int .i64 (pxPow 6), .string (pxLet 7), .int .i64 (pxPow 7), .string (pxLet 8), .int .i64 (pxPow 8), .string (pxLet 9), .int .i64 (pxPow 9)]
def Px (w : World) : Prop := ∃ t fr, w.heap[(0 : Nat)]? = some (.cells pxCells t fr)
theorem Px.q {w w' : World} (h : Px w) (hq : Q w w') : Px w' := by
  obtain ⟨t, fr, h⟩ := h
  have hlt : (0 : Nat) < w.heap.size := by
    rcases Nat.lt_or_ge (0 : Nat) w.heap.size with hlt | hge
    · exact hlt
    · rw [Array.getElem?_eq_none hge] at h; cases h
  exact ⟨t, fr, (hq.heap hlt).trans h⟩
theorem px_info : (Tryz.prog.info? 176).map (·.size) = some pxCells.size := by kernel_rfl
theorem px_index (k : Nat) (hk : k < 10) (w : World) : (Instr.index 176 (.agg pxCells) (.int .i64 (k : Int))).run Tryz.prog w = .ok (pxRow k) w := by
  rcases (by omega : k = 0 ∨ k = 1 ∨ k = 2 ∨ k = 3 ∨ k = 4 ∨ k = 5 ∨ k = 6 ∨ k = 7 ∨ k = 8 ∨ k = 9) with h | h | h | h | h | h | h | h | h | h
  · rw [h]; kernel_rfl
  · rw [h]; kernel_rfl
  · rw [h]; kernel_rfl
  · rw [h]; kernel_rfl
  · rw [h]; kernel_rfl
  · rw [h]; kernel_rfl
  · rw [h]; kernel_rfl
  · rw [h]; kernel_rfl
  · rw [h]; kernel_rfl
  · rw [h]; kernel_rfl
theorem ret_ti {a : Value} {x y : Int} (h : x = y) : Ending.returned (.tuple #[a, .int .i64 x]) = .returned (.tuple #[a, .int .i64 y]) := by rw [h]
def Sf (l : List UInt8) (j : Nat) : Prop := j ≠ 5 ∧ Lib.hasSuffix l (letter j) = true
theorem suf_one (l : List UInt8) (c : UInt8) : Lib.hasSuffix l [c] = true ↔ l.getLast? = some c := by
  unfold Lib.hasSuffix
  rw [List.isSuffixOf_iff_suffix]
  constructor
  · rintro ⟨t, rfl⟩; simp
  · intro h
    obtain ⟨t, ht⟩ := List.getLast?_eq_some_iff.1 h
    exact ⟨t, ht.symm⟩
theorem trim_one {l : List UInt8} {c : UInt8} (h : Lib.hasSuffix l [c] = true) : Lib.trimSuffix l [c] = l.dropLast := by
  unfold Lib.trimSuffix
  rw [if_pos h, List.dropLast_eq_take]
  rfl
theorem pfx_letter {c : UInt8} {p : Int} (h : pfx c = some p) : ∃ k, k < 10 ∧ k ≠ 5 ∧ letter k = [c] ∧ p = pxPow k := by
  unfold pfx at h
  split at h
  · cases h; rename_i e; subst e; exact ⟨0, by decide, by decide, rfl, rfl⟩
  split at h
  · cases h; rename_i e; subst e; exact ⟨1, by decide, by decide, rfl, rfl⟩
  split at h
  · cases h; rename_i e; subst e; exact ⟨2, by decide, by decide, rfl, rfl⟩
  split at h
  · cases h; rename_i e; subst e; exact ⟨3, by decide, by decide, rfl, rfl⟩
  split at h
  · cases h; rename_i e; subst e; exact ⟨4, by decide, by decide, rfl, rfl⟩
  split at h
  · cases h; rename_i e; subst e; exact ⟨6, by decide, by decide, rfl, rfl⟩
  split at h
  · cases h; rename_i e; subst e; exact ⟨7, by decide, by decide, rfl, rfl⟩
  split at h
  · cases h; rename_i e; subst e; exact ⟨8, by decide, by decide, rfl, rfl⟩
  split at h
  · cases h; rename_i e; subst e; exact ⟨9, by decide, by decide, rfl, rfl⟩
  · cases h
theorem cutP_none {l : List UInt8} (h : ∀ j, j < 10 → ¬ Sf l j) : cutP l = (l, 0) := by
  unfold cutP
  cases hl : l.getLast? with
  | none => rfl
  | some c =>
    cases hp : pfx c with
    | none => simp only [hp]
    | some p =>
      obtain ⟨k, hk, h5, hc, -⟩ := pfx_letter hp
      exact absurd ⟨h5, by rw [hc]; exact (suf_one l c).2 hl⟩ (h k hk)
theorem letter_one {k : Nat} (hk : k < 10) (h5 : k ≠ 5) : ∃ c, letter k = [c] ∧ pfx c = some (pxPow k) := by
  rcases (by omega : k = 0 ∨ k = 1 ∨ k = 2 ∨ k = 3 ∨ k = 4 ∨ k = 6 ∨ k = 7 ∨ k = 8 ∨ k = 9) with rfl | rfl | rfl | rfl | rfl | rfl | rfl | rfl | rfl
  · exact ⟨102, rfl, rfl⟩
  · exact ⟨112, rfl, rfl⟩
  · exact ⟨110, rfl, rfl⟩
  · exact ⟨117, rfl, rfl⟩
  · exact ⟨109, rfl, rfl⟩
  · exact ⟨107, rfl, rfl⟩
  · exact ⟨77, rfl, rfl⟩
  · exact ⟨71, rfl, rfl⟩
  · exact ⟨84, rfl, rfl⟩
theorem cutP_some {l : List UInt8} {k : Nat} (hk : k < 10) (h : Sf l k) : cutP l = (Lib.trimSuffix l (letter k), pxPow k) := by
  obtain ⟨c, hc, hp⟩ := letter_one hk h.1
  have h2 := h.2
  rw [hc] at h2 ⊢
  rw [trim_one h2]
  unfold cutP
  rw [(suf_one l c).1 h2]
  simp only [hp]
theorem px_some {k : Nat} (hk : k < 10) (h5 : k ≠ 5) : ((pxLet k).toList == []) = false := by
  obtain ⟨c, hc, -⟩ := letter_one hk h5
  rw [ByteArray.toList_eq]
  have : (pxLet k).data.toList = [c] := hc
  rw [this]; rfl
def CutPRes (l : List UInt8) (w : World) (e : Ending) (w' : World) : Prop := ∃ a : ByteArray, e = .returned (.tuple #[.string a, .int .i64 (cutP l).2]) ∧ a.data.toList = (cutP l).1 ∧ Q w w'
set_option maxRecDepth 100000 in
set_option maxHeartbeats 1000000 in
theorem v_cutPrefix (s : ByteArray) (w : World) (hp : Px w) (hs : s.size ≤ 9223372036854775806) : Calls Tryz.prog 122 #[.string s] w (CutPRes s.data.toList w) := by
  obtain ⟨t, fr, hp⟩ := hp
  go_enter Tryz.func122, Tryz.ntmps122
  go_wp2_with (refine wpList_load_row rfl 176 (.global 0) rfl 0 rfl t pxCells fr _ hp Tryz.underlying176 rfl px_info ?_)
  clear hp
  go_loopw [9] (fun i wr => ∃ k : Nat, k ≤ 10 ∧ i = .int .i64 (k : Int) ∧ (∀ j, j < k → ¬ Sf s.data.toList j) ∧ Q w wr) (fun i _ => 10 - (intOf i).toNat)
  case atStart => exact ⟨0, Nat.zero_le _, rfl, fun j hj => absurd hj (Nat.not_lt_zero j), Q.refl _⟩
  case round =>
    obtain ⟨k, hk, rfl, hno, hq⟩ := hrel
    by_cases hlt : k < 10
    · have hix := px_index k hlt
      obtain ⟨pl, hpl⟩ : ∃ pl, pxLet k = pl := ⟨_, rfl⟩
      obtain ⟨pp, hpp⟩ : ∃ pp, pxPow k = pp := ⟨_, rfl⟩
      have hix2 : ∀ w, (Instr.index 176 (.agg pxCells) (.int .i64 (k : Int))).run Tryz.prog w = .ok (.agg #[.string pl, .int .i64 pp]) w := fun w => by
        rw [px_index k hlt w, ← hpl, ← hpp]; rfl
      have HNO := Lib.hid hno
      have HPL := Lib.hid hpl; have HPP := Lib.hid hpp
      clear hix hno hpl hpp
      have hqq := hq.alloc (.cells #[.string pl, .int .i64 pp] 175)
      go_wp2_with fail
      refine (Tryz.strings_CutSuffix s pl _ (by omega)).mono ?_
      rintro e w1 ⟨rfl, rfl⟩
      have hrel : Lib.hasSuffix s.data.toList pl.data.toList = Lib.hasSuffix s.data.toList (letter k) := by rw [← HPL.out]; rfl
      have hrel2 : Lib.trimSuffix s.data.toList pl.data.toList = Lib.trimSuffix s.data.toList (letter k) := by rw [← HPL.out]; rfl
      rw [hrel, hrel2]
      clear hrel hrel2
      obtain ⟨ta, hta⟩ : ∃ ta : ByteArray, ⟨(Lib.trimSuffix s.data.toList (letter k)).toArray⟩ = ta := ⟨_, rfl⟩
      rw [hta]
      have HTA := Lib.hid hta; clear hta
      by_cases hsf : Lib.hasSuffix s.data.toList (letter k) = true
      · rw [hsf]
        by_cases h5 : k = 5
        · have hpl5 : (pl.toList == []) = true := by rw [← HPL.out, h5, ByteArray.toList_eq]; rfl
          have hpl6 : pl.toList = [] := by rw [← HPL.out, h5, ByteArray.toList_eq]; rfl
          have H5 := Lib.hid h5; have HSF := Lib.hid hsf; clear h5 hsf
          go_wp2_with fail
          go_roundw
          case rel => exact ⟨k + 1, by omega, by go_num, by
            intro j hj hS
            rcases (by omega : j < k ∨ j = k) with h | h
            · exact HNO.out j h hS
            · subst h; exact hS.1 H5.out, hqq⟩
          case measure => simp [intOf]; omega
        · have hpl5 : (pl.toList == []) = false := by rw [← HPL.out]; exact px_some hlt h5
          have hpl6 : ¬ pl.toList = [] := by rw [← HPL.out]; exact ne_of_beq_false (px_some hlt h5)
          have hres := cutP_some hlt (l := s.data.toList) ⟨h5, hsf⟩
          have HR := Lib.hid hres; have HSF := Lib.hid hsf; clear hres h5 hsf
          go_wp2_with fail
          go_quiet (fail)
          go_wp2_with fail
          go_ret2
          exact ⟨ta, ret_ti (by rw [HR.out, ← HPP.out]), by rw [HR.out, ← HTA.out], hqq.drewN _⟩
      · have hsf2 : Lib.hasSuffix s.data.toList (letter k) = false := by simpa using hsf
        rw [hsf2]
        have HSF := Lib.hid hsf; clear hsf hsf2
        go_wp2_with fail
        go_roundw
        case rel => exact ⟨k + 1, by omega, by go_num, by
          intro j hj hS
          rcases (by omega : j < k ∨ j = k) with h | h
          · exact HNO.out j h hS
          · subst h; exact HSF.out hS.2, hqq⟩
        case measure => simp [intOf]; omega
    · have hk10 : k = 10 := by omega
      have hres := cutP_none (l := s.data.toList) (fun j hj => hno j (by omega))
      have HR := Lib.hid hres; clear hres hno
      go_wp2_with fail
      go_ret2
      exact ⟨s, ret_ti (by rw [HR.out]), by rw [HR.out], hq⟩
end Go.Proofs.YtimdddpfoagbjaaGreatDoor
