/- ValueTexts (P1.9): the law holds. No condition.. Part of the proof: texts Vf7 Vf8 Vg1 Ka3 Ka5 Jb1 Jb2 Jk2 Jk1. -/
import Derived.Test.YtgokbhikgdhmpaaGreatDoorQt04
import Derived.Test.YtgokbhikgdhmpaaGreatDoorQt05
import Derived.Test.YtgokbhikgdhmpaaGreatDoorQt06
import Derived.Test.YtgokbhikgdhmpaaGreatDoorQt21
namespace Go.Proofs.YtgokbhikgdhmpaaGreatDoor
open Go.RowKit
open Ma Me
theorem Nq.top {w : World} {s : Bool} {t b : Value} {q : Rat} (h : Nq w (.agg #[.bool s, t, b]) q) : Nm w t q.num.natAbs := by
 obtain ⟨t2, b2, e, h1, h2⟩ := h
 cases e
 exact h1
theorem ret_sb {a : Value} {x y : Bool} (h : x = y) : Ending.returned (.tuple #[a, .bool x]) = .returned (.tuple #[a, .bool y]) := by rw [h]
theorem shortU_none {U : Nat} (h : 412 < (dec U).length) : shortU U = none := by
 unfold shortU
 have := dec_hi_len U h
 rw [if_pos (by omega)]
theorem shortS_of {u : Rat} {U : Nat} (_ : 0 ≤ u) (hd : u.den = 1) (hU : u.num.natAbs = U) : shortS u = shortU U := by
 unfold shortS
 rw [if_pos hd, hU]
def ShRes (o : Option (List UInt8)) (w : World) (e : Ending) (w' : World) : Prop := ∃ t : ByteArray, e = .returned (.tuple #[.string t, .bool o.isSome]) ∧ t.data.toList = o.getD [] ∧ Q w w'
theorem v_zeros12 (w : World) : Calls Tryz.prog 184 #[.string ⟨#[48]⟩, .int .i64 12] w fun e w' => ∃ z : ByteArray, e = .returned (.string z) ∧ z.data.toList = List.replicate 12 48 ∧ z.size = 12 ∧ Q w w' := by
 refine Calls.mono (Tryz.strings_Repeat_main ⟨#[48]⟩ 12 w (by decide) (by decide) (by decide) (by decide)) ?_
 rintro e w' ⟨h1, h2⟩
 exact ⟨_, h1, rfl, rfl, h2⟩
set_option maxRecDepth 100000 in
set_option maxHeartbeats 2000000 in
theorem q_shortDigits (x : Value) (p : Rat) (w : World) (hT : Tb w) (hx : Nq w x p) (h0 : 0 ≤ p) (hB : 200 * sz p + 50000 ≤ LIM) : Calls Tryz.prog 128 #[x] w (ShRes (shortS (p * tenQ 12)) w) := by
 obtain ⟨s1, A1, n1, c1, A2, n2, c2, rfl, E1, Z1, O1, hxt, hxb⟩ := hx.form
 obtain ⟨w0, hW, hG0, hX0⟩ := boxes1 w s1 (.slice A1 n1 c1) (.slice A2 n2 c2)
 have hz1 := sz_ten 12
 have hz2 := sz_mul p (tenQ 12)
 have hu0 : 0 ≤ p * tenQ 12 := Rat.mul_nonneg h0 (Rat.le_of_lt (tenQ_pos _))
 have hB1 : 16 * (sz p + sz (tenQ 12)) + 100 ≤ LIM := by rw [LIM_eq] at *; omega
 generalize hu : p * tenQ 12 = u at *
 have HU := Lib.hid hu; clear hu
 have hzu : 100 * dg W64 u.num.natAbs + 100 ≤ LIM := by have := sz_num u; rw [LIM_eq] at *; omega
 have HB := Lib.hid hB; clear hB hz1 h0
 obtain ⟨x0, x1, x2⟩ := hX0.cells
 go_enter Tryz.func128, Tryz.ntmps128
 go_wp2_with fail
 clear hW
 have c0 : ∀ W, Q w0 W → W.cell? ⟨w.heap.size, 0, none⟩ = some (.bool s1) := fun W h => (hX0.q h).cells.1
 have c1' : ∀ W, Q w0 W → W.cell? ⟨w.heap.size, 1, none⟩ = some (.slice A1 n1 c1) := fun W h => (hX0.q h).cells.2.1
 have c2' : ∀ W, Q w0 W → W.cell? ⟨w.heap.size, 2, none⟩ = some (.slice A2 n2 c2) := fun W h => (hX0.q h).cells.2.2
 clear x0 x1 x2
 go_region_held3 (fun W => Q w0 W) (first | with_reducible exact (Q.refl w0).drew | with_reducible exact hq1 | with_reducible exact hS2 | with_reducible exact ((Q.refl w0).alloc _).drew | with_reducible exact hq1.alloc _ | with_reducible exact hS2.alloc _ | with_reducible exact ((hS2.setCell hgE0 _).setCell hgE0 _).setCell hgE0 _) (first
  | (go_at_call 29; (with_reducible refine (q_Mul _ _ p (tenQ 12) w1 (hT.q hG1) (hx.q hG1) htv hB1).mono ?_); rintro e w2 ⟨uv, rfl, huv, hq2⟩; rw [HU.out] at huv; obtain ⟨s3, A3, n3, c3, A4, n4, c4, rfl, E3, Z3, O3, hut, hub⟩ := huv.form; have hG2 := hG1.trans hq2; have hS2 := hq1.trans hq2; first | (have hE2 := hE1.q hq2; have fz := hE2.frozen; obtain ⟨r0, r1, r2⟩ := hE2.cells) | skip)
  | (go_at_call 29; (with_reducible refine (q_Mul _ _ p (tenQ 12) _ (hT.q (hG1.alloc _)) (hx.q (hG1.alloc _)) (htv.q ((Q.refl _).alloc _)) hB1).mono ?_); rintro e w2 ⟨uv, rfl, huv, hq2d⟩; have hq2 : Q w1 w2 := ((Q.refl _).alloc _).trans hq2d; rw [HU.out] at huv; obtain ⟨s3, A3, n3, c3, A4, n4, c4, rfl, E3, Z3, O3, hut, hub⟩ := huv.form; have hG2 := hG1.trans hq2; have hS2 := hq1.trans hq2; have hE2 := (Nb.new w1 false (.slice none 0 0) (.slice none 0 0)).q hq2d; have hgE0 : w0.heap.size ≤ w1.heap.size := hq1.size; have hgE := Nat.le_trans hG0.size hgE0; have fz := hE2.frozen; obtain ⟨r0, r1, r2⟩ := hE2.cells)
  | (go_at_call 124; (with_reducible refine (q_tens 12 w0.drew (by decide)).mono ?_); rintro e w1 ⟨tv, rfl, htv, hq1d⟩; have hq1 : Q w0 w1 := (Q.refl w0).drew.trans hq1d; obtain ⟨s7, A7, n7, c7, A8, n8, c8, rfl, -⟩ := htv.form; have hG1 := hG0.trans hq1)
  | (go_at_call 124; (with_reducible refine (q_tens 12 (w0.alloc (.cells #[.bool false, .slice none 0 0, .slice none 0 0] 25)).drew (by decide)).mono ?_); rintro e w1 ⟨tv, rfl, htv, hq1d⟩; have hq1 : Q w0 w1 := ((Q.refl w0).alloc _).drew.trans hq1d; obtain ⟨s7, A7, n7, c7, A8, n8, c8, rfl, -⟩ := htv.form; have hG1 := hG0.trans hq1; have hE1 : Nb w1 w0.heap.size false (.slice none 0 0) (.slice none 0 0) := (Nb.new w0 false (.slice none 0 0) (.slice none 0 0)).q ((Q.refl _).drew.trans hq1d); have hgE0 : w0.heap.size ≤ w0.heap.size := Nat.le_refl _; have hgE := hG0.size))
 have hEE : Nb (w2.alloc (.cells #[.bool s3, .slice A3 n3 c3, .slice A4 n4 c4] 25)) w2.heap.size s3 (.slice A3 n3 c3) (.slice A4 n4 c4) := Nb.new w2 _ _ _
 have hGE := hG2.alloc (.cells #[.bool s3, .slice A3 n3 c3, .slice A4 n4 c4] 25)
 have huE := huv.q ((Q.refl w2).alloc (.cells #[.bool s3, .slice A3 n3 c3, .slice A4 n4 c4] 25))
 generalize w2.alloc (.cells #[.bool s3, .slice A3 n3 c3, .slice A4 n4 c4] 25) = wE at hEE hGE huE ⊢
 generalize w2.heap.size = gE at hEE ⊢
 rotate_left
 have hEE := hE2.put (s := s3) (t := .slice A3 n3 c3) (b := .slice A4 n4 c4)
 have hGE := put3_q (g := w1.heap.size) (s := s3) (t := .slice A3 n3 c3) (b := .slice A4 n4 c4) hG2 hgE
 have huE := Nq.apart (s' := s3) (t' := .slice A3 n3 c3) (b' := .slice A4 n4 c4) huv hE2
 unfold put3 at hEE hGE huE
 generalize ((w2.setCell ⟨w1.heap.size, 0, none⟩ (.bool s3)).setCell ⟨w1.heap.size, 1, none⟩ (.slice A3 n3 c3)).setCell ⟨w1.heap.size, 2, none⟩ (.slice A4 n4 c4) = wE at hEE hGE huE ⊢
 generalize w1.heap.size = gE at hEE ⊢
 rotate_left
 have hEE := hE2.put (s := s3) (t := .slice A3 n3 c3) (b := .slice A4 n4 c4)
 have hGE := put3_q (g := w0.heap.size) (s := s3) (t := .slice A3 n3 c3) (b := .slice A4 n4 c4) hG2 hgE
 have huE := Nq.apart (s' := s3) (t' := .slice A3 n3 c3) (b' := .slice A4 n4 c4) huv hE2
 unfold put3 at hEE hGE huE
 generalize ((w2.setCell ⟨w0.heap.size, 0, none⟩ (.bool s3)).setCell ⟨w0.heap.size, 1, none⟩ (.slice A3 n3 c3)).setCell ⟨w0.heap.size, 2, none⟩ (.slice A4 n4 c4) = wE at hEE hGE huE ⊢
 generalize w0.heap.size = gE at hEE ⊢
 rotate_left
 all_goals
  clear c0 c1' c2' hut hub huv
  have hut := huE.top
  obtain ⟨U, hU⟩ : ∃ U, u.num.natAbs = U := ⟨_, rfl⟩
  rw [hU] at hut hzu
  have HUU := Lib.hid hU; clear hU
  have hutE := hut
  obtain ⟨e0, e1, e2⟩ := hEE.cells
  go_wp2_with fail
  refine (q_whole _ u _ huE).mono ?_
  rintro e w11 ⟨rfl, hq11⟩
  have hG11 := hGE.trans hq11
  have hE11 := hEE.q hq11
  clear e0 e1 e2
  obtain ⟨e0, e1, e2⟩ := hE11.cells
  by_cases hd : u.den = 1
  ·rw [decide_eq_true hd]
   have hS := shortS_of hu0 hd HUU.out
   have HS := Lib.hid hS; have HD := Lib.hid hd; clear hS hd
   go_wp2_with fail
   refine (v_countDigits _ U _ (hutE.q hq11) hzu).mono ?_
   rintro e w12 ⟨rfl, hq12⟩
   have hG12 := hG11.trans hq12
   have hE12 := hE11.q hq12
   clear e0 e1 e2
   obtain ⟨n, hn⟩ : ∃ n, (dec U).length = n := ⟨_, rfl⟩
   rw [hn]
   have HN := Lib.hid hn; clear hn
   by_cases hl : 412 < n
   ·have hl2 : (412 : Int) < (n : Int) := by omega
    have hno : shortS u = none := by rw [HS.out]; exact shortU_none (by rw [HN.out]; exact hl)
    have HNO := Lib.hid hno; clear hno hl
    go_wp2_with fail
    go_ret2
    exact ⟨⟨#[]⟩, ret_sb (by rw [HNO.out]; rfl), by rw [HNO.out]; rfl, hG12⟩
   ·have hl2 : ¬ (412 : Int) < (n : Int) := by omega
    have hn412 : n ≤ 412 := by omega
    have hdU : dg W64 U ≤ 1000000000 := by have := dg_dec U; rw [HN.out] at this; omega
    clear hl
    go_wp2_with fail
    obtain ⟨e0, e1, e2⟩ := hE12.cells
    refine wp_region_held_drew (S := fun W => W.cell? ⟨gE, 0, none⟩ = some (.bool s3) ∧ W.cell? ⟨gE, 1, none⟩ = some (.slice A3 n3 c3) ∧ W.cell? ⟨gE, 2, none⟩ = some (.slice A4 n4 c4)) (by kernel_rfl) (by exact ⟨e0, e1, e2⟩) (fun hHeld => ?_)
    refine wpAnyH_take (i := 1) (v := ?_) rfl (by kernel_rfl) (by kernel_rfl) (by kernel_rfl) (fun _ _ _ h => h) (Or.inl ⟨by rfl, ?_⟩) (by assumption) ?_
    rotate_left
    ·intro W hSw
     (try dsimp only at hSw)
     go_simp
     try (with_reducible rfl)
    try simp only [Act.put]
    try simp only [List.setIfInBounds_toArray]
    try simp only [List.set_cons_zero, List.set_cons_succ]
    refine wpAnyH_take (i := 2) (v := ?_) rfl (by kernel_rfl) (by kernel_rfl) (by kernel_rfl) (fun _ _ _ h => h) (Or.inl ⟨by rfl, ?_⟩) (by assumption) ?_
    rotate_left
    ·intro W hSw
     (try dsimp only at hSw)
     go_simp
     try (with_reducible rfl)
    try simp only [Act.put]
    try simp only [List.setIfInBounds_toArray]
    try simp only [List.set_cons_zero, List.set_cons_succ]
    refine wpAnyH_ready (rs := [0]) (by kernel_rfl) (by decide) (AllReadyH.cons rfl (fun K hK => ?_) AllReadyH.nil)
    go_simp
    (with_reducible refine (v_zeros12 _).mono ?_)
    rintro e w13 ⟨z, rfl, hz, hz12, hq13d⟩
    have hq13 : Q w12 w13 := (Q.refl w12).drew.trans hq13d
    have hG13 := hG12.trans hq13
    have hE13 := hE12.q hq13
    obtain ⟨e0, e1, e2⟩ := hE13.cells
    have HZ := Lib.hid hz
    clear hz
    have HZ12 := Lib.hid hz12
    have hz13 := Nat.le_of_eq hz12
    clear hz12
    go_wp2_with fail
    refine hK.out _ _ (by exact ⟨by assumption, by assumption, by assumption⟩) (fun hHeld => ?_)
    clear hK K
    try simp only [Act.put]
    try simp only [List.setIfInBounds_toArray]
    try simp only [List.set_cons_zero, List.set_cons_succ]
    refine wpAnyH_ready (rs := [3]) (by kernel_rfl) (by decide) (AllReadyH.cons rfl (fun K hK => ?_) AllReadyH.nil)
    go_simp
    (with_reducible refine (v_toDigits _ U _ ((hutE.q (hq11.trans hq12)).q hq13) hdU).mono ?_)
    rintro e w14 ⟨tb, rfl, htb, hq14⟩
    have hG14 := hG13.trans hq14
    have hE14 := hE13.q hq14
    obtain ⟨e0, e1, e2⟩ := hE14.cells
    have htn : tb.size = n := (Lib.size_eq tb).trans ((congrArg List.length htb).trans HN.out)
    have htn2 : tb.size ≤ 412 := (by omega)
    have HTB := Lib.hid htb
    have HTN := Lib.hid htn
    clear htb htn
    go_wp2_with fail
    refine hK.out _ _ (by exact ⟨by assumption, by assumption, by assumption⟩) (fun hHeld => ?_)
    clear hK K
    try simp only [Act.put]
    try simp only [List.setIfInBounds_toArray]
    try simp only [List.set_cons_zero, List.set_cons_succ]
    refine wpAnyH_ready (rs := [4]) (by kernel_rfl) (by decide) (AllReadyH.cons rfl (fun K hK => ?_) AllReadyH.nil)
    go_simp
    rw [if_neg (by omega)]
    go_simp
    refine hK.out _ _ (by exact ⟨by assumption, by assumption, by assumption⟩) (fun hHeld => ?_)
    clear hK K
    try simp only [Act.put]
    try simp only [List.setIfInBounds_toArray]
    try simp only [List.set_cons_zero, List.set_cons_succ]
    refine wpAnyH_take (i := 5) (v := ?_) rfl (by kernel_rfl) (by kernel_rfl) (by kernel_rfl) (fun _ _ _ h => h) (Or.inl ⟨by rfl, ?_⟩) (by assumption) ?_
    rotate_left
    ·intro W hSw
     (try dsimp only at hSw)
     go_simp
     try (with_reducible rfl)
    try simp only [Act.put]
    try simp only [List.setIfInBounds_toArray]
    try simp only [List.set_cons_zero, List.set_cons_succ]
    refine wpAnyH_done (by kernel_rfl) ?_ _
    all_goals
     obtain ⟨sa1, sa2⟩ := short_all U
     rw [HN.out] at sa1 sa2
     have hal : (z ++ tb).data.toList = List.replicate 12 48 ++ dec U := by rw [cat_list, HZ.out, HTB.out]
     have has : (z ++ tb).size = 12 + n := by rw [ByteArray.size_append, HZ12.out, HTN.out]
     rw [← hal] at sa1 sa2
     clear hal
     generalize z ++ tb = al at *
     have hpt : (al.size : Int) - 12 = (n : Int) := by omega
     have q1 : (0 : Int) ≤ (n : Int) := by omega
     have q2 : (n : Int) ≤ (al.size : Int) := by omega
     have q3 : al.size ≤ 424 := by omega
     have hex1 : (al.extract 0 n).data.toList = al.data.toList.take n := by rw [Lib.extract_data]; simp
     have hex2 : (al.extract n al.size).data.toList = al.data.toList.drop n := Lib.extract_to_end _ _
     have hxs : (al.extract n al.size).size ≤ 9223372036854775807 := by rw [Lib.size_eq, hex2, List.length_drop, ← Lib.size_eq]; omega
     obtain ⟨fa, hfa⟩ : ∃ fa : ByteArray, ⟨(Lib.trimLeftB (al.extract 0 n).data.toList 48).toArray⟩ = fa := ⟨_, rfl⟩
     obtain ⟨fb, hfb⟩ : ∃ fb : ByteArray, ⟨(Lib.trimRightB (al.extract n al.size).data.toList 48).toArray⟩ = fb := ⟨_, rfl⟩
     have la : fa.data.toList = if U / 1000000000000 = 0 then [] else dec (U / 1000000000000) := by rw [← hfa, ← sa2, ← hex1]; rfl
     have lb : fb.data.toList = rtrim (pd 12 (U % 1000000000000)) := by rw [← hfb, ← sa1, ← hex2]; rfl
     have hsh := shortU_of la lb
     rw [← HS.out] at hsh
     have hLC : ∀ W : World, Calls Tryz.prog 185 #[.string (al.extract 0 n), .string ⟨#[48]⟩] W fun e w' => e = .returned (.string fa) ∧ w' = W := fun W => by have h := Tryz.strings_TrimLeft_one (al.extract 0 n) 48 (by decide) W; rw [hfa] at h; exact h
     have hRC : ∀ W : World, Calls Tryz.prog 186 #[.string (al.extract n al.size), .string ⟨#[48]⟩] W fun e w' => e = .returned (.string fb) ∧ w' = W := fun W => by have h := Tryz.strings_TrimRight_one (al.extract n al.size) 48 (by decide) W hxs; rw [hfb] at h; exact h
     have HLC := Lib.hid hLC; have HRC := Lib.hid hRC; clear hLC hRC
     have fl1 : fa.size ≤ 424 := by rw [← hfa, Lib.size_eq, toList_mk]; exact Nat.le_trans (List.dropWhile_sublist _).length_le (by rw [hex1, List.length_take, ← Lib.size_eq]; omega)
     have fl2 : fb.size ≤ 424 := by rw [← hfb, Lib.size_eq, toList_mk]; unfold Lib.trimRightB; rw [List.length_reverse]; exact Nat.le_trans (List.dropWhile_sublist _).length_le (by rw [List.length_reverse, hex2, List.length_drop, ← Lib.size_eq]; omega)
     have ta := ByteArray.toList_eq fa
     have tbb := ByteArray.toList_eq fb
     have sza := Lib.size_eq fa
     have szb := Lib.size_eq fb
     generalize hfl : fa.data.toList = f at *
     generalize hbl : fb.data.toList = bb at *
     have HFA := Lib.hid hfa; have HFB := Lib.hid hfb; have HSH := Lib.hid hsh; have HFL := Lib.hid hfl; have HBL := Lib.hid hbl; have TA := Lib.hid ta; have TB2 := Lib.hid tbb; have SZA := Lib.hid sza; have SZB := Lib.hid szb
     clear hfa hfb hsh hfl hbl ta tbb sza szb sa1 sa2 la lb hex1 hex2 has
     go_wp2_with fail
     go_quiet ((first | (go_at_call 185; exact Calls.quiet_of_same (HLC.out _)) | (go_at_call 186; exact Calls.quiet_of_same (HRC.out _))))
     by_cases hf0 : f = []
     ·have faa : fa.toList = [] := TA.out.trans hf0
      have fab : (fa.toList == []) = true := by rw [faa]; rfl
      have fac : fa.toList.isEmpty = true := by rw [faa]; rfl
      have hsh2 : shortS u = if 400 < ([48] : List UInt8).length + bb.length then none else some ([48] ++ if bb = [] then [] else 46 :: bb) := by have h := HSH.out; rw [if_pos hf0] at h; exact h
      have HS2 := Lib.hid hsh2; clear hsh2
      have HF0 := Lib.hid hf0; clear hf0
      by_cases hll : 400 < ([48] : List UInt8).length + bb.length
      ·have hl4 : (400 : Int) < (1 : Int) + (fb.size : Int) := by rw [SZB.out]; simp at hll; omega
       have hno : shortS u = none := by rw [HS2.out, if_pos hll]
       have HNO := Lib.hid hno; clear hno hll
       go_wp2_with fail
       go_ret2
       exact ⟨⟨#[]⟩, ret_sb (by rw [HNO.out]; rfl), by rw [HNO.out]; rfl, hG14.drewN _⟩
      ·have hl4 : ¬ (400 : Int) < (1 : Int) + (fb.size : Int) := by rw [SZB.out]; simp at hll; omega
       by_cases hb0 : bb = []
       ·have fba : fb.toList = [] := TB2.out.trans hb0
        have fbb : (fb.toList == []) = true := by rw [fba]; rfl
        have fbc : fb.toList.isEmpty = true := by rw [fba]; rfl
        have hsome : shortS u = some ([48] ++ []) := by rw [HS2.out, if_neg hll, if_pos hb0]
        have HSO := Lib.hid hsome; clear hsome hll hb0
        go_wp2_with fail
        go_ret2
        exact ⟨⟨#[48]⟩, ret_sb (by rw [HSO.out]; rfl), by rw [HSO.out]; simp, hG14.drewN _⟩
       ·have fba : ¬ fb.toList = [] := fun h => hb0 (TB2.out.symm.trans h)
        have fbb : (fb.toList == []) = false := beq_eq_false_iff_ne.2 fba
        have fbc : fb.toList.isEmpty = false := by cases hx : fb.toList with | nil => exact absurd hx fba | cons _ _ => rfl
        have hsome : shortS u = some ([48] ++ 46 :: bb) := by rw [HS2.out, if_neg hll, if_neg hb0]
        have HSO := Lib.hid hsome; clear hsome hll hb0
        go_wp2_with fail
        go_ret2
        exact ⟨⟨#[48]⟩ ++ ⟨#[46]⟩ ++ fb, ret_sb (by rw [HSO.out]; rfl), by rw [HSO.out, cat_list, cat_list, HBL.out]; simp, hG14.drewN _⟩
     ·have faa : ¬ fa.toList = [] := fun h => hf0 (TA.out.symm.trans h)
      have fab : (fa.toList == []) = false := beq_eq_false_iff_ne.2 faa
      have fac : fa.toList.isEmpty = false := by cases hx : fa.toList with | nil => exact absurd hx faa | cons _ _ => rfl
      have hsh2 : shortS u = if 400 < (f : List UInt8).length + bb.length then none else some (f ++ if bb = [] then [] else 46 :: bb) := by have h := HSH.out; rw [if_neg hf0] at h; exact h
      have HS2 := Lib.hid hsh2; clear hsh2
      have HF0 := Lib.hid hf0; clear hf0
      by_cases hll : 400 < (f : List UInt8).length + bb.length
      ·have hl4 : (400 : Int) < (fa.size : Int) + (fb.size : Int) := by rw [SZB.out, SZA.out]; omega
       have hno : shortS u = none := by rw [HS2.out, if_pos hll]
       have HNO := Lib.hid hno; clear hno hll
       go_wp2_with fail
       go_ret2
       exact ⟨⟨#[]⟩, ret_sb (by rw [HNO.out]; rfl), by rw [HNO.out]; rfl, hG14.drewN _⟩
      ·have hl4 : ¬ (400 : Int) < (fa.size : Int) + (fb.size : Int) := by rw [SZB.out, SZA.out]; omega
       by_cases hb0 : bb = []
       ·have fba : fb.toList = [] := TB2.out.trans hb0
        have fbb : (fb.toList == []) = true := by rw [fba]; rfl
        have fbc : fb.toList.isEmpty = true := by rw [fba]; rfl
        have hsome : shortS u = some (f ++ []) := by rw [HS2.out, if_neg hll, if_pos hb0]
        have HSO := Lib.hid hsome; clear hsome hll hb0
        go_wp2_with fail
        go_ret2
        exact ⟨fa, ret_sb (by rw [HSO.out]; rfl), by rw [HSO.out]; simp; exact HFL.out, hG14.drewN _⟩
       ·have fba : ¬ fb.toList = [] := fun h => hb0 (TB2.out.symm.trans h)
        have fbb : (fb.toList == []) = false := beq_eq_false_iff_ne.2 fba
        have fbc : fb.toList.isEmpty = false := by cases hx : fb.toList with | nil => exact absurd hx fba | cons _ _ => rfl
        have hsome : shortS u = some (f ++ 46 :: bb) := by rw [HS2.out, if_neg hll, if_neg hb0]
        have HSO := Lib.hid hsome; clear hsome hll hb0
        go_wp2_with fail
        go_ret2
        exact ⟨fa ++ ⟨#[46]⟩ ++ fb, ret_sb (by rw [HSO.out]; rfl), by rw [HSO.out, cat_list, cat_list, HBL.out, HFL.out]; simp, hG14.drewN _⟩
  ·rw [decide_eq_false hd]
   have hno : shortS u = none := if_neg hd
   have HNO := Lib.hid hno; clear hno hd
   go_wp2_with fail
   go_ret2
   exact ⟨⟨#[]⟩, ret_sb (by rw [HNO.out]; rfl), by rw [HNO.out]; rfl, hG11⟩
end Go.Proofs.YtgokbhikgdhmpaaGreatDoor
namespace Go.Proofs.YtgokbhikgdhmpaaGreatDoor
open Go.RowKit
open Ma Me
theorem letter_len (i : Nat) : (letter i).length ≤ 1 := by
 unfold letter
 rcases Nat.lt_or_ge i 10 with h | h
 ·rcases (by omega : i = 0 ∨ i = 1 ∨ i = 2 ∨ i = 3 ∨ i = 4 ∨ i = 5 ∨ i = 6 ∨ i = 7 ∨ i = 8 ∨ i = 9) with rfl | rfl | rfl | rfl | rfl | rfl | rfl | rfl | rfl | rfl <;> decide
 ·rw [List.getElem?_eq_none (by simpa using h)]; decide
theorem short_len {u : Rat} {o : Option (List UInt8)} (h : shortS u = o) : ∀ d, o = some d → d.length ≤ 401 := by
 intro d hd
 subst hd
 unfold shortS at h
 split at h
 ·unfold shortU at h
  split at h
  ·cases h
  ·rename_i hl
   have e := Option.some.inj h
   rw [← e, List.length_append]
   split
   ·simp; omega
   ·rw [List.length_cons]; omega
 ·cases h
set_option maxRecDepth 100000 in
set_option maxHeartbeats 2000000 in
theorem q_Show (x : Value) (p : Rat) (w : World) (hT : Tb w) (hPx : Px w) (hx : Nq w x p) (hB : 2000 * sz p + 500000 ≤ LIM) : Calls Tryz.prog 27 #[x] w fun e w' => ∃ t : ByteArray, e = .returned (.string t) ∧ t.data.toList = showQ p ∧ Q w w' := by
 obtain ⟨s1, A1, n1, c1, A2, n2, c2, rfl, E1, Z1, O1, hxt, hxb⟩ := hx.form
 obtain ⟨w0, hW, hG0, hX0⟩ := boxes1 w s1 (.slice A1 n1 c1) (.slice A2 n2 c2)
 have HB := Lib.hid hB; clear hB
 by_cases hp0 : p = 0
 ·have k0 : ((n1 : Int) == 0) = true := by rw [Z1.out.2 hp0]; rfl
  have HS : Hid (showQ p = [48]) := if_pos hp0
  clear hp0
  obtain ⟨x0, x1, x2⟩ := hX0.cells
  go_enter Tryz.func27, Tryz.ntmps27
  go_wp2_with fail
  go_ret
  exact ⟨⟨#[48]⟩, rfl, HS.out.symm, hG0⟩
 ·have k0 : ((n1 : Int) == 0) = false := beq_eq_false_iff_ne.2 (fun h => hp0 (Z1.out.1 (by omega)))
  obtain ⟨i, hi⟩ : ∃ i, pIdx (absQ p) 10 = i := ⟨_, rfl⟩
  have hi10 := pIdx_lt (absQ p) 10 (by decide)
  rw [hi] at hi10
  obtain ⟨pw10, hpw⟩ : ∃ z : Int, pxPow i = z := ⟨_, rfl⟩
  obtain ⟨pl, hpl⟩ : ∃ b, pxLet i = b := ⟨_, rfl⟩
  have hpl2 : pl.data.toList = letter i := by rw [← hpl]; rfl
  have hplz : pl.size ≤ 1 := by rw [Lib.size_eq, hpl2]; exact letter_len i
  have hpb : -15 ≤ pw10 ∧ pw10 ≤ 15 := by rw [← hpw]; unfold pxPow; omega
  have hpb1 := hpb.1; have hpb2 := hpb.2; clear hpb
  have hun : unitsQ p = absQ p * tenQ (-pw10) * tenQ 12 := by unfold unitsQ; rw [hi, ← hpw]; unfold pxPow; congr 2; congr 1; omega
  have hsh : showQ p = match shortS (unitsQ p) with | some d => signT p ++ d ++ letter i | none => textQ p := by unfold showQ; rw [if_neg hp0, hi]; cases shortS (unitsQ p) <;> rfl
  obtain ⟨o, ho⟩ : ∃ o, shortS (unitsQ p) = o := ⟨_, rfl⟩
  rw [ho] at hsh
  rw [hun] at ho
  have hol := short_len ho
  have hzt := sz_ten (-pw10)
  have hzm := sz_mul (absQ p) (tenQ (-pw10))
  have hza := sz_abs p
  have hBm : 16 * (sz (absQ p) + sz (tenQ (-pw10))) + 100 ≤ LIM := by have := HB.out; rw [LIM_eq] at *; omega
  have hBs : 200 * sz (absQ p * tenQ (-pw10)) + 50000 ≤ LIM := by have := HB.out; rw [LIM_eq] at *; omega
  have hBp : 64 * sz (absQ p) + 2000 ≤ LIM := by have := HB.out; rw [LIM_eq] at *; omega
  have hBt : sz p ≤ 1000000000 := by have := HB.out; rw [LIM_eq] at *; omega
  have hnn : 0 ≤ absQ p * tenQ (-pw10) := Rat.mul_nonneg (by unfold absQ; split <;> grind) (Rat.le_of_lt (tenQ_pos _))
  have hm1 : (-pw10).natAbs ≤ 1000000 := by omega
  have HI := Lib.hid hi; clear hi
  have HPW := Lib.hid hpw; clear hpw
  have HPL := Lib.hid hpl; clear hpl
  have HPL2 := Lib.hid hpl2; clear hpl2
  have HSH := Lib.hid hsh; clear hsh
  have HO := Lib.hid ho; clear ho
  have HOL := Lib.hid hol; clear hol
  have HP0 := Lib.hid hp0; clear hp0
  have HNN := Lib.hid hnn; clear hnn
  clear hun hzt hzm hza
  obtain ⟨x0, x1, x2⟩ := hX0.cells
  go_enter Tryz.func27, Tryz.ntmps27
  go_wp2_with fail
  clear hW k0
  refine (q_size _ p _ (hx.q hG0)).mono ?_
  rintro e w1 ⟨v1, rfl, hv1, hq1⟩
  have hG1 := hG0.trans hq1
  have hX1 := hX0.q hq1
  clear x0 x1 x2
  obtain ⟨s5, A5, n5, c5, A6, n6, c6, rfl, -⟩ := hv1.form
  go_wp2_with fail
  refine (q_prefixOf _ (absQ p) _ (hPx.q hG1) hv1 hBp).mono ?_
  rintro e w2 ⟨rfl, hq2⟩
  have hG2 := hG1.trans hq2
  have hX2 := hX1.q hq2
  obtain ⟨x0, x1, x2⟩ := hX2.cells
  rw [HI.out, HPW.out, HPL.out]
  go_wp2_with fail
  refine (q_size _ p _ (hx.q hG2)).mono ?_
  rintro e w3 ⟨v2, rfl, hv2, hq3⟩
  have hG3 := hG2.trans hq3
  have hX3 := hX2.q hq3
  clear x0 x1 x2
  obtain ⟨x0, x1, x2⟩ := hX3.cells
  obtain ⟨s7, A7, n7, c7, A8, n8, c8, rfl, -⟩ := hv2.form
  go_wp2_with fail
  refine (q_tens (-pw10) _ hm1).mono ?_
  rintro e w4 ⟨v3, rfl, hv3, hq4⟩
  have hG4 := hG3.trans hq4
  have hX4 := hX3.q hq4
  clear x0 x1 x2
  obtain ⟨x0, x1, x2⟩ := hX4.cells
  obtain ⟨s9, A9, n9, c9, A10, n10, c10, rfl, -⟩ := hv3.form
  go_wp2_with fail
  refine (q_Mul _ _ (absQ p) (tenQ (-pw10)) _ (hT.q hG4) (hv2.q hq4) hv3 hBm).mono ?_
  rintro e w5 ⟨v4, rfl, hv4, hq5⟩
  have hG5 := hG4.trans hq5
  have hX5 := hX4.q hq5
  clear x0 x1 x2
  obtain ⟨x0, x1, x2⟩ := hX5.cells
  obtain ⟨s11, A11, n11, c11, A12, n12, c12, rfl, -⟩ := hv4.form
  go_wp2_with fail
  refine (q_shortDigits _ (absQ p * tenQ (-pw10)) _ (hT.q hG5) hv4 HNN.out hBs).mono ?_
  rintro e w6 ⟨td, rfl, htd, hq6⟩
  have hG6 := hG5.trans hq6
  have hX6 := hX5.q hq6
  clear x0 x1 x2
  obtain ⟨x0, x1, x2⟩ := hX6.cells
  rw [HO.out] at htd ⊢
  cases o with
  | none =>
   have hR : showQ p = textQ p := HSH.out
   have HR := Lib.hid hR; clear hR
   go_wp2_with fail
   refine (q_Text _ p _ (hx.q hG6) hBt).mono ?_
   rintro e w7 ⟨tt, rfl, htt, hq7⟩
   have hG7 := hG6.trans hq7
   have hX7 := hX6.q hq7
   clear x0 x1 x2
   have HTT := Lib.hid htt; clear htt
   go_wp2_with fail
   go_ret
   exact ⟨tt, rfl, HTT.out.trans HR.out.symm, hG7⟩
  | some d =>
   have hR : showQ p = signT p ++ d ++ letter i := HSH.out
   have HR := Lib.hid hR; clear hR
   have htd2 : td.data.toList = d := htd
   have htz : td.size ≤ 401 := by rw [Lib.size_eq, htd2]; exact HOL.out d rfl
   have HTD := Lib.hid htd2; clear htd htd2
   go_wp2_with fail
   refine (q_signText _ p _ (hx.q hG6)).mono ?_
   rintro e w7 ⟨ts, rfl, hts, hq7⟩
   have hG7 := hG6.trans hq7
   have hX7 := hX6.q hq7
   clear x0 x1 x2
   have hsz1 := sign_size hts
   have HTS := Lib.hid hts; clear hts
   go_wp2_with fail
   go_ret
   exact ⟨_, rfl, by rw [cat_list, cat_list, HTS.out, HTD.out, HPL2.out, HR.out], hG7⟩
end Go.Proofs.YtgokbhikgdhmpaaGreatDoor
namespace Go.Proofs.YtgokbhikgdhmpaaGreatDoor
open Go.RowKit
open Ma Me
def Ns (w : World) (v : Value) (p q : Rat) : Prop := ∃ s1 A1 n1 c1 A2 n2 c2 s2 A3 n3 c3 A4 n4 c4, v = .agg #[.bool s1, .slice A1 n1 c1, .slice A2 n2 c2, .bool s2, .slice A3 n3 c3, .slice A4 n4 c4] ∧
 Nq w (.agg #[.bool s1, .slice A1 n1 c1, .slice A2 n2 c2]) p ∧ Nq w (.agg #[.bool s2, .slice A3 n3 c3, .slice A4 n4 c4]) q
theorem Ns.q {w w' : World} {v : Value} {p q : Rat} (h : Ns w v p q) (hq : Q w w') : Ns w' v p q := by
 obtain ⟨s1, A1, n1, c1, A2, n2, c2, s2, A3, n3, c3, A4, n4, c4, e, h1, h2⟩ := h
 exact ⟨s1, A1, n1, c1, A2, n2, c2, s2, A3, n3, c3, A4, n4, c4, e, h1.q hq, h2.q hq⟩
def Sp (w : World) (g : Nat) (s1 : Bool) (t1 b1 : Value) (s2 : Bool) (t2 b2 : Value) : Prop := w.heap[g]? = some (.cells #[.bool s1, t1, b1, .bool s2, t2, b2] 70 (0, 0))
section
variable {w w' : World} {g : Nat} {s1 s2 : Bool} {t1 b1 t2 b2 : Value}
theorem Sp.cells (h : Sp w g s1 t1 b1 s2 t2 b2) : w.cell? ⟨g, 0, none⟩ = some (.bool s1) ∧ w.cell? ⟨g, 1, none⟩ = some t1 ∧ w.cell? ⟨g, 2, none⟩ = some b1 ∧ w.cell? ⟨g, 3, none⟩ = some (.bool s2) ∧ w.cell? ⟨g, 4, none⟩ = some t2 ∧ w.cell? ⟨g, 5, none⟩ = some b2 := by
 unfold Sp at h
 refine ⟨?_, ?_, ?_, ?_, ?_, ?_⟩ <;> simp [World.cell?, h]
theorem Sp.frozen (h : Sp w g s1 t1 b1 s2 t2 b2) (i : Nat) : w.frozen? ⟨g, i, none⟩ = false := by
 unfold Sp at h
 simp [World.frozen?, h]
theorem Sp.lt (h : Sp w g s1 t1 b1 s2 t2 b2) : g < w.heap.size := by
 rcases Nat.lt_or_ge g w.heap.size with hlt | hge
 ·exact hlt
 ·unfold Sp at h; rw [Array.getElem?_eq_none hge] at h; cases h
theorem Sp.q (h : Sp w g s1 t1 b1 s2 t2 b2) (hq : Q w w') : Sp w' g s1 t1 b1 s2 t2 b2 := (hq.heap h.lt).trans h
theorem Sp.new (w : World) (s1 : Bool) (t1 b1 : Value) (s2 : Bool) (t2 b2 : Value) : Sp (w.alloc (.cells #[.bool s1, t1, b1, .bool s2, t2, b2] 70)) w.heap.size s1 t1 b1 s2 t2 b2 := heap_alloc_new w _
end
def put6 (w : World) (g : Nat) (s1 : Bool) (t1 b1 : Value) (s2 : Bool) (t2 b2 : Value) : World :=
 (((((w.setCell ⟨g, 0, none⟩ (.bool s1)).setCell ⟨g, 1, none⟩ t1).setCell ⟨g, 2, none⟩ b1).setCell ⟨g, 3, none⟩ (.bool s2)).setCell ⟨g, 4, none⟩ t2).setCell ⟨g, 5, none⟩ b2
theorem Sp.put {w : World} {g : Nat} {s1 s2 s1' s2' : Bool} {t1 b1 t2 b2 t1' b1' t2' b2' : Value} (h : Sp w g s1' t1' b1' s2' t2' b2') : Sp (put6 w g s1 t1 b1 s2 t2 b2) g s1 t1 b1 s2 t2 b2 := by
 unfold Sp at h ⊢
 unfold put6
 simp [World.setCell, Array.getElem?_modify, h]
theorem put6_q {a w : World} {g : Nat} {s1 s2 : Bool} {t1 b1 t2 b2 : Value} (h : Q a w) (hg : a.heap.size ≤ g) : Q a (put6 w g s1 t1 b1 s2 t2 b2) :=
 (((((h.setCell (p := ⟨g, 0, none⟩) hg _).setCell (p := ⟨g, 1, none⟩) hg _).setCell (p := ⟨g, 2, none⟩) hg _).setCell (p := ⟨g, 3, none⟩) hg _).setCell (p := ⟨g, 4, none⟩) hg _).setCell (p := ⟨g, 5, none⟩) hg _
theorem put6_heap {w : World} {g k : Nat} {s1 s2 : Bool} {t1 b1 t2 b2 : Value} (h : k ≠ g) : (put6 w g s1 t1 b1 s2 t2 b2).heap[k]? = w.heap[k]? := by
 unfold put6
 rw [Below.heap_setCell _ _ _ _ h, Below.heap_setCell _ _ _ _ h, Below.heap_setCell _ _ _ _ h, Below.heap_setCell _ _ _ _ h, Below.heap_setCell _ _ _ _ h, Below.heap_setCell _ _ _ _ h]
theorem put6_size {w : World} {g : Nat} {s1 s2 : Bool} {t1 b1 t2 b2 : Value} : (put6 w g s1 t1 b1 s2 t2 b2).heap.size = w.heap.size := by
 unfold put6; simp
theorem Sp.no_word {w : World} {g o : Nat} {s1 s2 : Bool} {A1 A2 A3 A4 : Option Addr} {n1 c1 n2 c2 n3 c3 n4 c4 : Nat} {d : Int} (hb : Sp w g s1 (.slice A1 n1 c1) (.slice A2 n2 c2) s2 (.slice A3 n3 c3) (.slice A4 n4 c4)) : w.cell? ⟨g, o, none⟩ ≠ some (.int .u64 d) := by
 unfold Sp at hb
 intro h6
 simp only [World.cell?, hb] at h6
 rcases o with _ | _ | _ | _ | _ | _ | o <;> simp at h6
theorem Me.Nm.put6 {w : World} {x : Value} {N g : Nat} {s1 s2 s1' s2' : Bool} {A1 A2 A3 A4 : Option Addr} {n1 c1 n2 c2 n3 c3 n4 c4 : Nat} {t1' b1' t2' b2' : Value} (h : Nm w x N) (hb : Sp w g s1 (.slice A1 n1 c1) (.slice A2 n2 c2) s2 (.slice A3 n3 c3) (.slice A4 n4 c4)) : Nm (put6 w g s1' t1' b1' s2' t2' b2') x N := by
 obtain ⟨A, c, ws, rfl, h2, h3, h4, h5⟩ := h
 refine ⟨A, c, ws, rfl, h2, fun hn => ?_, h4, h5⟩
 obtain ⟨bl, o, rfl, hlt, hc⟩ := h3 hn
 have hne : bl ≠ g := by
  rintro rfl
  exact hb.no_word (hc 0 _ (List.getElem?_eq_getElem hn))
 refine ⟨bl, o, rfl, by rw [put6_size]; exact hlt, fun j d hd => ?_⟩
 have := hc j d hd
 unfold World.cell? at this ⊢
 rw [put6_heap hne]
 exact this
theorem Nq.apart6 {w : World} {v : Value} {q : Rat} {g : Nat} {s1 s2 s1' s2' : Bool} {A1 A2 A3 A4 : Option Addr} {n1 c1 n2 c2 n3 c3 n4 c4 : Nat} {t1' b1' t2' b2' : Value} (h : Nq w v q) (hb : Sp w g s1 (.slice A1 n1 c1) (.slice A2 n2 c2) s2 (.slice A3 n3 c3) (.slice A4 n4 c4)) : Nq (put6 w g s1' t1' b1' s2' t2' b2') v q := by
 obtain ⟨t, b, h1, h2, h3⟩ := h
 exact ⟨t, b, h1, h2.put6 hb, h3.put6 hb⟩
theorem Ns.store {a w : World} {g : Nat} {s1 s2 s1' s2' : Bool} {A1 A2 A3 A4 B1 B2 B3 B4 : Option Addr} {n1 c1 n2 c2 n3 c3 n4 c4 m1 d1 m2 d2 m3 d3 m4 d4 : Nat} {p q : Rat} (hr : Sp w g s1' (.slice B1 m1 d1) (.slice B2 m2 d2) s2' (.slice B3 m3 d3) (.slice B4 m4 d4))
    (hlo : Nq w (.agg #[.bool s1, .slice A1 n1 c1, .slice A2 n2 c2]) p) (hhi : Nq w (.agg #[.bool s2, .slice A3 n3 c3, .slice A4 n4 c4]) q) (hq : Q a w) (hg : a.heap.size ≤ g) :
    (put6 w g s1 (.slice A1 n1 c1) (.slice A2 n2 c2) s2 (.slice A3 n3 c3) (.slice A4 n4 c4)).cell? ⟨g, 0, none⟩ = some (.bool s1) ∧ (put6 w g s1 (.slice A1 n1 c1) (.slice A2 n2 c2) s2 (.slice A3 n3 c3) (.slice A4 n4 c4)).cell? ⟨g, 1, none⟩ = some (.slice A1 n1 c1) ∧
    (put6 w g s1 (.slice A1 n1 c1) (.slice A2 n2 c2) s2 (.slice A3 n3 c3) (.slice A4 n4 c4)).cell? ⟨g, 2, none⟩ = some (.slice A2 n2 c2) ∧ (put6 w g s1 (.slice A1 n1 c1) (.slice A2 n2 c2) s2 (.slice A3 n3 c3) (.slice A4 n4 c4)).cell? ⟨g, 3, none⟩ = some (.bool s2) ∧
    (put6 w g s1 (.slice A1 n1 c1) (.slice A2 n2 c2) s2 (.slice A3 n3 c3) (.slice A4 n4 c4)).cell? ⟨g, 4, none⟩ = some (.slice A3 n3 c3) ∧ (put6 w g s1 (.slice A1 n1 c1) (.slice A2 n2 c2) s2 (.slice A3 n3 c3) (.slice A4 n4 c4)).cell? ⟨g, 5, none⟩ = some (.slice A4 n4 c4) ∧
    Ns (put6 w g s1 (.slice A1 n1 c1) (.slice A2 n2 c2) s2 (.slice A3 n3 c3) (.slice A4 n4 c4)) (.agg #[.bool s1, .slice A1 n1 c1, .slice A2 n2 c2, .bool s2, .slice A3 n3 c3, .slice A4 n4 c4]) p q ∧ Q a (put6 w g s1 (.slice A1 n1 c1) (.slice A2 n2 c2) s2 (.slice A3 n3 c3) (.slice A4 n4 c4)) := by
  obtain ⟨r0, r1, r2, r3, r4, r5⟩ := (hr.put (s1 := s1) (t1 := .slice A1 n1 c1) (b1 := .slice A2 n2 c2) (s2 := s2) (t2 := .slice A3 n3 c3) (b2 := .slice A4 n4 c4)).cells
  exact ⟨r0, r1, r2, r3, r4, r5, ⟨_, _, _, _, _, _, _, _, _, _, _, _, _, _, rfl, hlo.apart6 hr, hhi.apart6 hr⟩, put6_q hq hg⟩
theorem boxS1r (w : World) (s1 : Bool) (t1 b1 : Value) (s2 : Bool) (t2 b2 : Value) : ∃ W, (w.alloc (.cells #[.bool s1, t1, b1, .bool s2, t2, b2] 70)).alloc (.cells #[.bool false, .slice none 0 0, .slice none 0 0, .bool false, .slice none 0 0, .slice none 0 0] 70) = W ∧
    Q w W ∧ Sp W w.heap.size s1 t1 b1 s2 t2 b2 ∧ Sp W (w.heap.size + 1) false (.slice none 0 0) (.slice none 0 0) false (.slice none 0 0) (.slice none 0 0) := by
  have h1 := Sp.new w s1 t1 b1 s2 t2 b2
  have h2 := Sp.new (w.alloc (.cells #[.bool s1, t1, b1, .bool s2, t2, b2] 70)) false (.slice none 0 0) (.slice none 0 0) false (.slice none 0 0) (.slice none 0 0)
  rw [World.size_alloc] at h2
  exact ⟨_, rfl, ((Q.refl _).alloc _).alloc _, h1.q ((Q.refl _).alloc _), h2⟩
set_option maxRecDepth 100000 in
set_option maxHeartbeats 1000000 in
theorem q_ordered (a : Value) (p q : Rat) (w : World) (ha : Ns w a p q) (hB : 64 * (sz p + sz q) + 400 ≤ LIM) : Calls Tryz.prog 153 #[a] w fun e w' => ∃ r, e = .returned r ∧ Ns w' r (rmin p q) (rmax p q) ∧ Q w w' := by
 obtain ⟨s11, A11, n11, c11, A12, n12, c12, s12, A13, n13, c13, A14, n14, c14, rfl, lo1, hi1⟩ := ha
 obtain ⟨w0, hW, hG0, hA0, hT0⟩ := boxS1r w s11 (.slice A11 n11 c11) (.slice A12 n12 c12) s12 (.slice A13 n13 c13) (.slice A14 n14 c14)
 have HB := Lib.hid hB; clear hB
 obtain ⟨c, hc⟩ : ∃ c, rc p q = c := ⟨_, rfl⟩
 have hle := rc_le p q
 rw [hc] at hle
 have HC := Lib.hid hc; have HLE := Lib.hid hle; clear hc hle
 by_cases h : 0 < c
 ·have HH := Lib.hid h
  have hnle : ¬ p ≤ q := fun h1 => by have := HLE.out.2 h1; have := HH.out; omega
  have hge : q ≤ p := by grind
  have hm1 : rmin p q = q := if_neg hnle
  have hm2 : rmax p q = p := if_pos hge
  rw [hm1, hm2]
  clear hm1 hm2 hnle hge
  obtain ⟨a0, a1, a2, a3, a4, a5⟩ := hA0.cells
  go_enter Tryz.func153, Tryz.ntmps153
  go_wp2_with fail
  clear hW
  refine (q_Cmp _ _ p q _ (lo1.q hG0) (hi1.q hG0) HB.out).mono ?_
  rintro e w1 ⟨rfl, hq1⟩
  have hG1 := hG0.trans hq1
  have hA1 := hA0.q hq1
  have hT1 := hT0.q hq1
  clear a0 a1 a2 a3 a4 a5
  obtain ⟨a0, a1, a2, a3, a4, a5⟩ := hA1.cells
  have fz := hT1.frozen
  obtain ⟨r0, r1, r2, r3, r4, r5⟩ := hT1.cells
  rw [HC.out]
  go_wp2_with fail
  obtain ⟨z0, z1, z2, z3, z4, z5, hvF, hqF⟩ := Ns.store hT1 (hi1.q hG1) (lo1.q hG1) hG1 (Nat.le_add_right _ _)
  unfold put6 at z0 z1 z2 z3 z4 z5 hvF hqF
  refine bodyPost_ret (v := .agg #[.bool s12, .slice A13 n13 c13, .slice A14 n14 c14, .bool s11, .slice A11 n11 c11, .slice A12 n12 c12]) (by simp [results, Tryz.results153, go_sem, z0, z1, z2, z3, z4, z5]) rfl ?_
  exact ⟨_, rfl, hvF, hqF⟩
 ·have HH := Lib.hid h
  have hm1 : rmin p q = p := if_pos (HLE.out.1 (by have := HH.out; omega))
  have hm2 : rmax p q = q := rmax_of (HLE.out.1 (by have := HH.out; omega))
  rw [hm1, hm2]
  clear hm1 hm2
  obtain ⟨a0, a1, a2, a3, a4, a5⟩ := hA0.cells
  go_enter Tryz.func153, Tryz.ntmps153
  go_wp2_with fail
  clear hW
  refine (q_Cmp _ _ p q _ (lo1.q hG0) (hi1.q hG0) HB.out).mono ?_
  rintro e w1 ⟨rfl, hq1⟩
  have hG1 := hG0.trans hq1
  have hA1 := hA0.q hq1
  have hT1 := hT0.q hq1
  clear a0 a1 a2 a3 a4 a5
  obtain ⟨a0, a1, a2, a3, a4, a5⟩ := hA1.cells
  have fz := hT1.frozen
  obtain ⟨r0, r1, r2, r3, r4, r5⟩ := hT1.cells
  rw [HC.out]
  go_wp2_with fail
  obtain ⟨z0, z1, z2, z3, z4, z5, hvF, hqF⟩ := Ns.store hT1 (lo1.q hG1) (hi1.q hG1) hG1 (Nat.le_add_right _ _)
  unfold put6 at z0 z1 z2 z3 z4 z5 hvF hqF
  refine bodyPost_ret (v := .agg #[.bool s11, .slice A11 n11 c11, .slice A12 n12 c12, .bool s12, .slice A13 n13 c13, .slice A14 n14 c14]) (by simp [results, Tryz.results153, go_sem, z0, z1, z2, z3, z4, z5]) rfl ?_
  exact ⟨_, rfl, hvF, hqF⟩
end Go.Proofs.YtgokbhikgdhmpaaGreatDoor
namespace Go.Proofs.YtgokbhikgdhmpaaGreatDoor.K
open Go.RowKit
open Ma Me
theorem nq_ap {w w' : World} {v : Value} {q : Rat} {g : Nat} (h : Nq w v q) (ha : Ap w w' g) : Nq w' v q := by
 obtain ⟨t, b, e, h1, h2⟩ := h
 exact ⟨t, b, e, ha.nm h1, ha.nm h2⟩
def pNum (q : Rat) : Pr := ⟨fun v w => Nq w v q, fun h hq => Nq.q h hq, true, fun _ h ha => nq_ap h ha⟩
theorem nqNone (w : World) : Nq w (.agg #[.bool false, .slice none 0 0, .slice none 0 0]) 0 := ⟨_, _, rfl, Nm.zero Option.none 0, Nm.zero Option.none 0⟩
section
variable {w : World} {s1 s2 : Bool} {A1 A2 A3 A4 : Option Addr} {n1 c1 n2 c2 n3 c3 n4 c4 : Nat} {p q : Rat}
end
def pL3 (p q r : Rat) : Pr := ⟨fun v w => ∃ g s1 A1 n1 c1 A2 n2 c2 s2 A3 n3 c3 A4 n4 c4 s3 A5 n5 c5 A6 n6 c6, v = .slice (some ⟨g, 0, none⟩) 3 3 ∧
    Bx w g 25 [.bool s1, .slice A1 n1 c1, .slice A2 n2 c2, .bool s2, .slice A3 n3 c3, .slice A4 n4 c4, .bool s3, .slice A5 n5 c5, .slice A6 n6 c6] ∧
    Nq w (.agg #[.bool s1, .slice A1 n1 c1, .slice A2 n2 c2]) p ∧ Nq w (.agg #[.bool s2, .slice A3 n3 c3, .slice A4 n4 c4]) q ∧ Nq w (.agg #[.bool s3, .slice A5 n5 c5, .slice A6 n6 c6]) r,
  fun ⟨g, s1, A1, n1, c1, A2, n2, c2, s2, A3, n3, c3, A4, n4, c4, s3, A5, n5, c5, A6, n6, c6, e, h, h1, h2, h3⟩ hq => ⟨g, s1, A1, n1, c1, A2, n2, c2, s2, A3, n3, c3, A4, n4, c4, s3, A5, n5, c5, A6, n6, c6, e, h.q hq, Nq.q h1 hq, Nq.q h2 hq, Nq.q h3 hq⟩,
  false, fun h => by cases h⟩
end Go.Proofs.YtgokbhikgdhmpaaGreatDoor.K
namespace Go.Proofs.YtgokbhikgdhmpaaGreatDoor.K
open Go.RowKit
open Ma Me
theorem fNum {q : Rat} : ∀ v W, (Vs.gen (pNum q)).holds v W → ∃ v0 v1 v2, v = .agg #[v0, v1, v2] ∧ Sh [.b, .s, .s] [v0, v1, v2] := fun v W h => by
 obtain ⟨s, A1, n1, c1, A2, n2, c2, e, -⟩ := Nq.form (show Nq W v q from h)
 exact ⟨_, _, _, e, ⟨_, rfl⟩, ⟨_, _, _, rfl⟩, ⟨_, _, _, rfl⟩, trivial⟩
end Go.Proofs.YtgokbhikgdhmpaaGreatDoor.K
namespace Go.Proofs.YtgokbhikgdhmpaaGreatDoor
open Go.RowKit
open Ma Me
inductive Vs where
 | any
 | eq (v : Value)
 | num (q : Rat)
 | span (p q : Rat)
 | pair (q : Rat) (c : Int)
 | three (p q r : Rat) (b : Bool)
def Vs.holds : Vs → Value → World → Prop
 | .any, _, _ => True
 | .eq u, v, _ => v = u
 | .num q, v, w => Nq w v q
 | .span p q, v, w => Ns w v p q
 | .pair q c, v, w => ∃ r, v = .tuple #[r, .int .i64 c] ∧ Nq w r q
 | .three p q r b, v, w => ∃ x y z, v = .tuple #[x, y, z, .bool b] ∧ Nq w x p ∧ Nq w y q ∧ Nq w z r
theorem Vs.mono {s : Vs} {v : Value} {w w' : World} (hq : Q w w') (h : s.holds v w) : s.holds v w' := by
 cases s with
 | any => trivial
 | eq u => exact h
 | num q => exact Nq.q h hq
 | span p q => exact Ns.q h hq
 | pair q c => obtain ⟨r, h1, h2⟩ := h; exact ⟨r, h1, h2.q hq⟩
 | three p q r b => obtain ⟨x, y, z, h1, h2, h3, h4⟩ := h; exact ⟨x, y, z, h1, h2.q hq, h3.q hq, h4.q hq⟩
def SL (l : List Vs) (j : Nat) (v : Value) (w : World) : Prop := (l.getD j .any).holds v w
def isB : Vs → Bool → Bool
 | .eq (.bool c), b => c == b
 | _, _ => false
theorem isB_spec {s : Vs} {b : Bool} (h : isB s b = true) : s = .eq (.bool b) := by
 unfold isB at h
 split at h
 ·simp at h; subst h; rfl
 ·cases h
section
variable {P : Program} {ops : Array Oper} {Q' : Exit → Act → World → Prop} {l : List Vs} {F : (Nat → Value) → Act} {a : Act} {w1 : World}
structure Ctx (ops : Array Oper) (a : Act) (F : (Nat → Value) → Act) : Prop where
 hsh : (Ja.shape ops && Region.noSelect ops && Ja.inBounds ops a.tmps.size) = true
 hF : ∀ vals, F vals = Ja.fillL vals ops.toList 0 a
theorem Ctx.go (c : Ctx ops a F) : ∀ vals, F vals = Ja.fillGo ops (fun _ => true) vals ops.size a := fun vals => (c.hF vals).trans (Ja.fillL_full vals a)
def guardIs (ops : Array Oper) (l : List Vs) (o : Oper) (yes : Bool) : Bool :=
 match o.guard with
 | none => yes
 | some (g, b) => isB (l.getD g .any) (b == yes) && decide (g < ops.size) && ((ops[g]?).bind (·.dst)).isSome
theorem wanted_is {i : Nat} {o : Oper} {yes : Bool} (c : Ctx ops a F) (ho : ops[i]? = some o) (hg : guardIs ops l o yes = true) {vals : Nat → Value} {w : World}
    (hd : ∀ e ∈ o.after, Region.binds .any e = true → SL l e.on (vals e.on) w) : Region.wanted o (yielded ops (F vals).tmps) = yes := by
  rw [c.go]
  unfold guardIs at hg
  split at hg
  · rename_i h; unfold Region.wanted; rw [h, hg]
  · rename_i g b h
    simp only [Bool.and_eq_true, decide_eq_true_eq] at hg
    obtain ⟨⟨h1, h2⟩, h3⟩ := hg
    have hsh := c.hsh
    simp only [Bool.and_eq_true] at hsh
    obtain ⟨d, hd3⟩ := Option.isSome_iff_exists.1 h3
    obtain ⟨e, he, hb, heq⟩ := (Ja.shape_spec hsh.1.1 ho).2.1 d (by simp [Oper.looksAt, h, hd3]) g hd3
    have hv := hd e he hb
    rw [heq] at hv
    unfold SL at hv
    rw [isB_spec h1] at hv
    have := Ja.wanted_of (a := a) c.hsh h h2 h3 hv
    rw [this]
    cases b <;> cases yes <;> rfl
theorem Each.yes {i : Nat} {o : Oper} (c : Ctx ops a F) (ho : ops[i]? = some o) (hg : guardIs ops l o true = true)
    (h : ∀ (vals : Nat → Value) (w : World), Q w1 w → (∀ j, (o.after.any fun e => Region.binds .any e && e.on == j) = true → SL l j (vals j) w) →
      ∀ K : Act → World → Prop, Hid (∀ v w' a', a' = (F vals).put o.dst v → SL l i v w' → Q w w' → K a' w') → o.wp P (F vals) w K (fun _ _ _ => False)) :
    Ja.Step P ops (Ja.JS Q (SL l) w1) F i o :=
  Ja.JS.step (fun _ _ _ => Q.trans) (fun _ _ _ _ hm hs => Vs.mono hm hs) fun vals w hM hd => by
    rw [if_pos (wanted_is c ho hg hd)]
    intro K hK
    refine h vals w hM (fun j hj => ?_) K (Lib.hid hK)
    obtain ⟨e, he, hb⟩ := Array.any_eq_true'.1 hj
    simp only [Bool.and_eq_true, beq_iff_eq] at hb
    obtain ⟨h1, rfl⟩ := hb
    exact hd e he h1
theorem Each.no {i : Nat} {o : Oper} (c : Ctx ops a F) (ho : ops[i]? = some o) (hg : guardIs ops l o false = true) (hi : SL l i undef w1 ∧ l.getD i .any = .any) :
    Ja.Step P ops (Ja.JS Q (SL l) w1) F i o :=
  Ja.JS.step (fun _ _ _ => Q.trans) (fun _ _ _ _ hm hs => Vs.mono hm hs) fun vals w hM hd => by
    rw [if_neg (by rw [wanted_is c ho hg hd]; decide)]
    unfold SL
    rw [hi.2]
    trivial
theorem Each.y {i : Nat} {o : Oper} {rest : List Oper} (c : Ctx ops a F)
    (h : ∀ (vals : Nat → Value) (w : World), Q w1 w → (∀ j, (o.after.any fun e => Region.binds .any e && e.on == j) = true → SL l j (vals j) w) →
      ∀ K : Act → World → Prop, Hid (∀ v w' a', a' = (F vals).put o.dst v → SL l i v w' → Q w w' → K a' w') → o.wp P (F vals) w K (fun _ _ _ => False))
    (hr : Ja.Steps P ops (Ja.JS Q (SL l) w1) F (i + 1) rest) (ho : ops[i]? = some o := by rfl) (hg : guardIs ops l o true = true := by kernel_rfl) : Ja.Steps P ops (Ja.JS Q (SL l) w1) F i (o :: rest) :=
  Ja.Steps.cons (Each.yes c ho hg h) hr
theorem Each.n {i : Nat} {o : Oper} {rest : List Oper} (c : Ctx ops a F) (hr : Ja.Steps P ops (Ja.JS Q (SL l) w1) F (i + 1) rest) (ho : ops[i]? = some o := by rfl) (hg : guardIs ops l o false = true := by kernel_rfl)
  (hi : SL l i undef w1 ∧ l.getD i .any = .any := by exact ⟨trivial, rfl⟩) : Ja.Steps P ops (Ja.JS Q (SL l) w1) F i (o :: rest) := Ja.Steps.cons (Each.no c ho hg hi) hr
theorem region_each {id : Nat} {w : World} (l : List Vs) (hm : P.follows .mixedOrders = true) (hsh : (Ja.shape ops && Region.noSelect ops && Ja.inBounds ops a.tmps.size) = true)
    (hF : ∀ vals, Ja.fillL vals ops.toList 0 a = F vals)
    (hstep : Ctx ops a F → Ja.Steps P ops (Ja.JS Q (SL l) w.drew) F 0 ops.toList)
    (hend : ∀ vals w', Q w w' → (∀ j, j < ops.size → SL l j (vals j) w') → Q' .normal (F vals) w') : (Code.region id ops true).wp P Q' a w :=
  have c : Ctx ops a F := ⟨hsh, fun vals => (hF vals).symm⟩
  Ja.wp_region_each hm hsh c.go (Q.refl _) (hstep c) (fun vals w' hq h => hend vals w' ((Q.refl w).drew.trans hq) h)
theorem text_each {id : Nat} {w : World} (l : List Vs) (hsh : (Ja.shape ops && Region.noSelect ops && Ja.inBounds ops a.tmps.size) = true)
    (hF : ∀ vals, Ja.fillL vals ops.toList 0 a = F vals)
    (hstep : Ctx ops a F → Ja.Steps P ops (Ja.JS Q (SL l) w) F 0 ops.toList)
    (hend : ∀ vals w', Q w w' → (∀ j, j < ops.size → SL l j (vals j) w') → Q' .normal (F vals) w') : (Code.region id ops false).wp P Q' a w :=
  have c : Ctx ops a F := ⟨hsh, fun vals => (hF vals).symm⟩
  Ja.wp_text_each hsh c.go (Q.refl _) (hstep c) hend
end
end Go.Proofs.YtgokbhikgdhmpaaGreatDoor
namespace Go.Proofs.YtgokbhikgdhmpaaGreatDoor
open Go.RowKit
open Ma Me
def ofL (l : List UInt8) : ByteArray := ⟨l.toArray⟩
theorem str_of {t : ByteArray} {l : List UInt8} (h : t.data.toList = l) : t = ofL l := by
 unfold ofL
 rw [← h]
set_option maxRecDepth 100000 in
set_option maxHeartbeats 2000000 in
theorem q_equal (x y : Value) (p : Rat) (w : World) (hT : Tb w) (hPx : Px w) (hx : Nq w x p) (hy : Nq w y p) (hB : 2000 * sz p + 500000 ≤ LIM) : Calls Tryz.prog 96 #[x, y] w fun e w' => e = .returned (.bool true) ∧ Q w w' := by
 obtain ⟨s1, A1, n1, c1, A2, n2, c2, rfl, E1, Z1, O1, hxt, hxb⟩ := hx.form
 obtain ⟨s2, A3, n3, c3, A4, n4, c4, rfl, E2, Z2, O2, hyt, hyb⟩ := hy.form
 obtain ⟨w0, hW, hG0, hX0, hY0⟩ := boxes2 w s1 (.slice A1 n1 c1) (.slice A2 n2 c2) s2 (.slice A3 n3 c3) (.slice A4 n4 c4)
 have Z0 : Hid (sz p ≤ 549755563) := Lib.hid (by rw [LIM_eq] at hB; omega)
 clear hB
 have nX0 := hx.q hG0; have nY0 := hy.q hG0
 obtain ⟨x0, x1, x2⟩ := hX0.cells
 obtain ⟨y0, y1, y2⟩ := hY0.cells
 go_enter Tryz.func96, Tryz.ntmps96
 go_wp2_with fail
 clear hW
 have B1 : Hid (64 * (sz (p) + sz (p)) + 400 ≤ LIM) := Lib.hid (by have h0 := Z0.out; have h1 := Z0.out; rw [LIM_eq]; omega)
 have B2 : Hid (2000 * (sz (p)) + 500000 ≤ LIM) := Lib.hid (by have h0 := Z0.out; rw [LIM_eq]; omega)
 have B3 : Hid (2000 * (sz (p)) + 500000 ≤ LIM) := Lib.hid (by have h0 := Z0.out; rw [LIM_eq]; omega)
 clear x0 x1 x2 y0 y1 y2
 refine region_each (F := ?F1) ([.num (p), .num (p), .eq (.int .i64 (0)), .eq (.bool true), .eq (.bool true), .num (p), .eq (.string (ofL (textQ (p)))), .num (p), .eq (.string (ofL (textQ (p)))), .eq (.bool true), .eq (.bool true), .eq (.bool true), .num (p), .eq (.string (ofL (showQ (p)))), .num (p), .eq (.string (ofL (showQ (p)))), .eq (.bool true), .eq (.bool true), .eq (.bool true)] : List Vs) (by kernel_rfl) (by kernel_rfl) ?hF1 ?st1 ?en1
 case hF1 =>
  intro vals
  simp only [Ja.fillL, Act.put, List.setIfInBounds_toArray, List.set_cons_zero, List.set_cons_succ, Nat.reduceAdd]
  exact rfl
 case st1 =>
  intro hctx
  refine Each.y hctx ?_ ?_
  ·intro vals W hM hd K hK
   have hN : Q w0 W := (Q.refl _).drew.trans hM
   obtain ⟨z0, z1, z2⟩ := (hX0.q hN).cells
   go_simp
   exact hK.out (.agg #[.bool s1, .slice A1 n1 c1, .slice A2 n2 c2]) _ _ (by kernel_rfl) (nX0.q hN) (Q.refl _)
  refine Each.y hctx ?_ ?_
  ·intro vals W hM hd K hK
   have hN : Q w0 W := (Q.refl _).drew.trans hM
   obtain ⟨z0, z1, z2⟩ := (hY0.q hN).cells
   go_simp
   exact hK.out (.agg #[.bool s2, .slice A3 n3 c3, .slice A4 n4 c4]) _ _ (by kernel_rfl) (nY0.q hN) (Q.refl _)
  refine Each.y hctx ?_ ?_
  ·intro vals W hM hd K hK
   have d0 : Nq W (vals 0) (p) := hd 0 (by kernel_rfl)
   have d1 : Nq W (vals 1) (p) := hd 1 (by kernel_rfl)
   go_simp
   (with_reducible refine (q_Cmp _ _ (p) (p) W d0 d1 B1.out).mono ?_)
   rintro e W9 ⟨rfl, hq9⟩
   exact hK.out (.int .i64 (rc (p) (p))) W9 _ (by kernel_rfl) (congrArg (Value.int .i64) (rc_eq (p))) hq9
  refine Each.y hctx ?_ ?_
  ·intro vals W hM hd K hK
   have d2 : vals 2 = .int .i64 (0) := hd 2 (by kernel_rfl)
   generalize vals 2 = u2 at d2 hK ⊢
   subst d2
   go_simp
   exact hK.out (.bool true) _ _ (by kernel_rfl) rfl (Q.refl _)
  refine Each.y hctx ?_ ?_
  ·intro vals W hM hd K hK
   have d3 : vals 3 = .bool true := hd 3 (by kernel_rfl)
   generalize vals 3 = u3 at d3 hK ⊢
   subst d3
   go_simp
   exact hK.out (.bool true) _ _ (by kernel_rfl) rfl (Q.refl _)
  refine Each.y hctx ?_ ?_
  ·intro vals W hM hd K hK
   have hN : Q w0 W := (Q.refl _).drew.trans hM
   obtain ⟨z0, z1, z2⟩ := (hX0.q hN).cells
   go_simp
   exact hK.out (.agg #[.bool s1, .slice A1 n1 c1, .slice A2 n2 c2]) _ _ (by kernel_rfl) (nX0.q hN) (Q.refl _)
  refine Each.y hctx ?_ ?_
  ·intro vals W hM hd K hK
   have d5 : Nq W (vals 5) (p) := hd 5 (by kernel_rfl)
   go_simp
   (with_reducible refine (q_Text _ (p) W d5 (by have h0 := Z0.out; omega)).mono ?_)
   rintro e W9 ⟨t, rfl, ht, hq9⟩
   exact hK.out (.string t) W9 _ (by kernel_rfl) (congrArg Value.string (str_of ht)) hq9
  refine Each.y hctx ?_ ?_
  ·intro vals W hM hd K hK
   have hN : Q w0 W := (Q.refl _).drew.trans hM
   obtain ⟨z0, z1, z2⟩ := (hY0.q hN).cells
   go_simp
   exact hK.out (.agg #[.bool s2, .slice A3 n3 c3, .slice A4 n4 c4]) _ _ (by kernel_rfl) (nY0.q hN) (Q.refl _)
  refine Each.y hctx ?_ ?_
  ·intro vals W hM hd K hK
   have d7 : Nq W (vals 7) (p) := hd 7 (by kernel_rfl)
   go_simp
   (with_reducible refine (q_Text _ (p) W d7 (by have h0 := Z0.out; omega)).mono ?_)
   rintro e W9 ⟨t, rfl, ht, hq9⟩
   exact hK.out (.string t) W9 _ (by kernel_rfl) (congrArg Value.string (str_of ht)) hq9
  refine Each.y hctx ?_ ?_
  ·intro vals W hM hd K hK
   have d6 : vals 6 = .string (ofL (textQ (p))) := hd 6 (by kernel_rfl)
   generalize vals 6 = u6 at d6 hK ⊢
   subst d6
   have d8 : vals 8 = .string (ofL (textQ (p))) := hd 8 (by kernel_rfl)
   generalize vals 8 = u8 at d8 hK ⊢
   subst d8
   go_simp
   exact hK.out (.bool true) _ _ (by kernel_rfl) rfl (Q.refl _)
  refine Each.y hctx ?_ ?_
  ·intro vals W hM hd K hK
   have d4 : vals 4 = .bool true := hd 4 (by kernel_rfl)
   generalize vals 4 = u4 at d4 hK ⊢
   subst d4
   have d9 : vals 9 = .bool true := hd 9 (by kernel_rfl)
   generalize vals 9 = u9 at d9 hK ⊢
   subst d9
   go_simp
   exact hK.out (.bool true) _ _ (by kernel_rfl) rfl (Q.refl _)
  refine Each.y hctx ?_ ?_
  ·intro vals W hM hd K hK
   have d10 : vals 10 = .bool true := hd 10 (by kernel_rfl)
   generalize vals 10 = u10 at d10 hK ⊢
   subst d10
   go_simp
   exact hK.out (.bool true) _ _ (by kernel_rfl) rfl (Q.refl _)
  refine Each.y hctx ?_ ?_
  ·intro vals W hM hd K hK
   have hN : Q w0 W := (Q.refl _).drew.trans hM
   obtain ⟨z0, z1, z2⟩ := (hX0.q hN).cells
   go_simp
   exact hK.out (.agg #[.bool s1, .slice A1 n1 c1, .slice A2 n2 c2]) _ _ (by kernel_rfl) (nX0.q hN) (Q.refl _)
  refine Each.y hctx ?_ ?_
  ·intro vals W hM hd K hK
   have hN : Q w0 W := (Q.refl _).drew.trans hM
   have hQ := hG0.trans hN
   have d12 : Nq W (vals 12) (p) := hd 12 (by kernel_rfl)
   go_simp
   (with_reducible refine (q_Show _ (p) W (hT.q hQ) (hPx.q hQ) d12 B2.out).mono ?_)
   rintro e W9 ⟨t, rfl, ht, hq9⟩
   exact hK.out (.string t) W9 _ (by kernel_rfl) (congrArg Value.string (str_of ht)) hq9
  refine Each.y hctx ?_ ?_
  ·intro vals W hM hd K hK
   have hN : Q w0 W := (Q.refl _).drew.trans hM
   obtain ⟨z0, z1, z2⟩ := (hY0.q hN).cells
   go_simp
   exact hK.out (.agg #[.bool s2, .slice A3 n3 c3, .slice A4 n4 c4]) _ _ (by kernel_rfl) (nY0.q hN) (Q.refl _)
  refine Each.y hctx ?_ ?_
  ·intro vals W hM hd K hK
   have hN : Q w0 W := (Q.refl _).drew.trans hM
   have hQ := hG0.trans hN
   have d14 : Nq W (vals 14) (p) := hd 14 (by kernel_rfl)
   go_simp
   (with_reducible refine (q_Show _ (p) W (hT.q hQ) (hPx.q hQ) d14 B3.out).mono ?_)
   rintro e W9 ⟨t, rfl, ht, hq9⟩
   exact hK.out (.string t) W9 _ (by kernel_rfl) (congrArg Value.string (str_of ht)) hq9
  refine Each.y hctx ?_ ?_
  ·intro vals W hM hd K hK
   have d13 : vals 13 = .string (ofL (showQ (p))) := hd 13 (by kernel_rfl)
   generalize vals 13 = u13 at d13 hK ⊢
   subst d13
   have d15 : vals 15 = .string (ofL (showQ (p))) := hd 15 (by kernel_rfl)
   generalize vals 15 = u15 at d15 hK ⊢
   subst d15
   go_simp
   exact hK.out (.bool true) _ _ (by kernel_rfl) rfl (Q.refl _)
  refine Each.y hctx ?_ ?_
  ·intro vals W hM hd K hK
   have d11 : vals 11 = .bool true := hd 11 (by kernel_rfl)
   generalize vals 11 = u11 at d11 hK ⊢
   subst d11
   have d16 : vals 16 = .bool true := hd 16 (by kernel_rfl)
   generalize vals 16 = u16 at d16 hK ⊢
   subst d16
   go_simp
   exact hK.out (.bool true) _ _ (by kernel_rfl) rfl (Q.refl _)
  refine Each.y hctx ?_ ?_
  ·intro vals W hM hd K hK
   have d17 : vals 17 = .bool true := hd 17 (by kernel_rfl)
   generalize vals 17 = u17 at d17 hK ⊢
   subst d17
   go_simp
   exact hK.out (.bool true) _ _ (by kernel_rfl) rfl (Q.refl _)
  exact Ja.Steps.nil
 intro vals w1 hq1 hall
 have hG1 := hG0.trans hq1
 have hX1 := hX0.q hq1
 have nX1 := nX0.q hq1
 have hY1 := hY0.q hq1
 have nY1 := nY0.q hq1
 have f4 : vals 18 = .bool true := hall 18 (by decide)
 rw [f4]
 clear hall hq1 hG0 hX0 hY0 nX0 nY0
 go_wp2_with fail
 go_ret
 exact ⟨ret_bool rfl, hG1⟩
end Go.Proofs.YtgokbhikgdhmpaaGreatDoor
namespace Go.Proofs.YtgokbhikgdhmpaaGreatDoor
open Ma Me
theorem dec_dg (N : Nat) : (dec N).length ≤ 20 * dg W64 N + 1 := by
 rw [dec_length]
 split
 ·omega
 ·have h := (dg_le_iff W64_gt N (dg W64 N)).1 (Nat.le_refl _)
  have h2 : W64 ^ dg W64 N ≤ 10 ^ (20 * dg W64 N) := by
   rw [Nat.pow_mul]
   exact Nat.pow_le_pow_left (by decide) _
  have h3 := (dg_le_iff (by decide : 1 < 10) N (20 * dg W64 N)).2 (Nat.lt_of_lt_of_le h h2)
  omega
theorem text_len (q : Rat) : (textQ q).length ≤ 20 * sz q + 10 := by
 unfold textQ
 have h1 := dec_dg q.num.natAbs
 have h2 := dec_dg q.den
 have h3 := sz_eq q
 rw [List.length_append, List.length_append]
 have h4 : (if q.num < 0 then ([45] : List UInt8) else []).length ≤ 1 := by split <;> simp
 have h5 : (if q.den = 1 then ([] : List UInt8) else 47 :: dec q.den).length ≤ (dec q.den).length + 1 := by split <;> simp
 omega
theorem show_len (q : Rat) : (showQ q).length ≤ 20 * sz q + 1000 := by
 unfold showQ
 split
 ·simp
 split
 ·rename_i d hd
  have h1 : d.length ≤ 401 := by
   unfold shortS at hd
   split at hd
   ·unfold shortU at hd
    split at hd
    ·cases hd
    ·injection hd with hd
     rw [← hd, List.length_append]
     split
     ·simp; omega
     ·simp; omega
   ·cases hd
  have h2 : (signT q).length ≤ 1 := by unfold signT; split <;> simp
  have h3 : (letter (pIdx (absQ q) 10)).length ≤ 1 := by
   unfold letter
   generalize pIdx (absQ q) 10 = i
   rcases i with _ | _ | _ | _ | _ | _ | _ | _ | _ | _ | i <;> simp
  rw [List.length_append, List.length_append]
  omega
 ·have := text_len q
  omega
theorem ofL_size (l : List UInt8) : (ofL l).size = l.length := by unfold ofL; simp [ByteArray.size]
theorem text_size (q : Rat) (h : sz q ≤ 100000000) : (ofL (textQ q)).size ≤ 9223372036854775806 := by
 rw [ofL_size]; have := text_len q; omega
theorem show_size (q : Rat) (h : sz q ≤ 100000000) : (ofL (showQ q)).size ≤ 9223372036854775806 := by
 rw [ofL_size]; have := show_len q; omega
theorem ofL_toList (l : List UInt8) : (ofL l).toList = l := by rw [ByteArray.toList_eq]; rfl
theorem texts_beq {a b : ByteArray} {p q : Rat} (ha : parseS a.data.toList = (0, p)) (hb : parseS b.data.toList = (0, q)) :
    (a.toList == b.toList) = decide (p = q) ∧ ((rc p q : Int) == 0) = decide (p = q) ∧ ((ofL (showQ p)).toList == (ofL (showQ q)).toList) = decide (p = q) := by
  have h1 := parse_text ha
  have h2 := parse_text hb
  refine ⟨?_, ?_, ?_⟩ <;> rw [Bool.eq_iff_iff, beq_iff_eq, decide_eq_true_iff]
  · rw [ByteArray.toList_eq, ByteArray.toList_eq, ← h1, ← h2]
    exact ⟨fun h => textQ_inj (parse_dig ha) h, fun h => by rw [h]⟩
  · exact rc_zero p q
  · rw [ofL_toList, ofL_toList]
    exact ⟨fun h => show_inj (parse_dig ha) h, fun h => by rw [h]⟩
theorem show_other {t : Rat} (h : ¬ readS (showQ t) = (0, t)) : showQ t = textQ t ∧ (readS (showQ t)).2 = 0 ∧ (readS (showQ t)).1 ≠ 0 := by
 rcases show_cases t with h1 | h1
 ·rcases read_text t with ⟨e, h2, h3⟩ | h2
  ·rw [h1, h2]; exact ⟨rfl, rfl, h3⟩
  ·rw [h1] at h; exact absurd h2 h
 ·exact absurd h1.1 h
theorem show_noslash {t : Rat} (_ : readS (showQ t) = (0, t)) (hn : ¬ showQ t = textQ t) : 47 ∉ showQ t := by
 rcases show_cases t with h1 | h1
 ·exact absurd h1 hn
 ·exact h1.2
end Go.Proofs.YtgokbhikgdhmpaaGreatDoor
namespace Go.Proofs.YtgokbhikgdhmpaaGreatDoor
open Go.RowKit
open Ma Me
def hasSlash (s : ByteArray) : Bool := decide (47 ∈ s.data.toList)
theorem no_take_succ {l : List UInt8} {i : Nat} {c b : UInt8} (h : c ∉ l.take i) (hb : l[i]? = some b) (hn : b ≠ c) : c ∉ l.take (i + 1) := by
 rw [List.take_add_one, hb]
 simp only [Option.toList_some, List.mem_append, List.mem_singleton, not_or]
 exact ⟨h, fun e => hn e.symm⟩
set_option maxRecDepth 100000 in
set_option maxHeartbeats 1000000 in
theorem v_slash (s : ByteArray) (w : World) (hs : s.size ≤ 9223372036854775806) : Calls Tryz.prog 97 #[.string s] w fun e w' => e = .returned (.bool (hasSlash s)) ∧ Q w w' := by
 go_enter Tryz.func97, Tryz.ntmps97
 go_wp2_with fail
 go_loopw [3] (fun iv w1 => ∃ i : Nat, iv = .int .i64 (i : Int) ∧ i ≤ s.size ∧ Hid (47 ∉ s.data.toList.take i) ∧ w1 = w) (fun iv _ => s.size - (intOf iv).toNat)
 case atStart => exact ⟨0, rfl, by omega, Lib.hid (by simp), rfl⟩
 case round =>
  obtain ⟨i, rfl, hi, hno, rfl⟩ := hrel
  by_cases hp : i < s.size
  ·have h1 : (i : Int) < (s.size : Int) := by omega
   have h0 : (0 : Int) ≤ (i : Int) := by omega
   have hby := byte_at hp
   have h2 : (i : Int).toNat = i := rfl
   generalize hb : s[i]'hp = b at *
   have HBY := Lib.hid hby; clear hby
   by_cases hc : b = 47
   ·subst hc
    have hyes : hasSlash s = true := decide_eq_true (List.mem_of_getElem? HBY.out)
    have HY := Lib.hid hyes; clear hyes
    go_wp2_with fail
    go_ret
    exact ⟨by rw [HY.out]; rfl, Q.refl _⟩
   ·have hn : ¬ (b.toNat : Int) = 47 := fun h => hc (UInt8.toNat_inj.1 (by have : (47 : UInt8).toNat = 47 := rfl; omega))
    have HN := Lib.hid (no_take_succ hno.out HBY.out hc)
    clear hc
    go_wp2_with fail
    exact ⟨⟨i + 1, rfl, by omega, HN, trivial⟩, by simp [intOf]; omega⟩
  ·have h1 : ¬ (i : Int) < (s.size : Int) := by omega
   have hno2 : hasSlash s = false := decide_eq_false (by
    have h := hno.out
    rwa [List.take_of_length_le (by rw [← Lib.size_eq]; omega)] at h)
   have HY := Lib.hid hno2; clear hno2
   go_wp2_with fail
   go_ret
   exact ⟨by rw [HY.out]; rfl, Q.refl _⟩
end Go.Proofs.YtgokbhikgdhmpaaGreatDoor
