/- ValueKnown (examples): the law holds. No condition.. Part of the proof: texts Vf7 Vf8 Vg1 Ka3 Vg2 Jb1. -/
import Derived.Test.YtgokbhikgdhmpaaGreatDoorQk04
import Derived.Test.YtgokbhikgdhmpaaGreatDoorQk05
import Derived.Test.YtgokbhikgdhmpaaGreatDoorQk06
import Derived.Test.YtgokbhikgdhmpaaGreatDoorQk19
namespace Go.Proofs.YtgokbhikgdhmpaaGreatDoor
open Go.RowKit
open Ma Me
theorem Nq.top {w : World} {s : Bool} {t b : Value} {q : Rat} (h : Nq w (.agg #[.bool s, t, b]) q) : Nm w t q.num.natAbs := by
 obtain ⟨t2, b2, e, h1, h2⟩ := h
 cases e
 exact h1
theorem ret_sb {a : Value} {x y : Bool} (h : x = y) : Ending.returned (.tuple #[a, .bool x]) = .returned (.tuple #[a, .bool y]) := by rw [h]
theorem shortU_none {U : Nat} (h : 412 < (dec U).length) : shortU U = none := by
 unfold shortU
 have := dec_hi_len U h
 rw [if_pos (by omega)]
theorem shortS_of {u : Rat} {U : Nat} (_ : 0 ≤ u) (hd : u.den = 1) (hU : u.num.natAbs = U) : shortS u = shortU U := by
 unfold shortS
 rw [if_pos hd, hU]
def ShRes (o : Option (List UInt8)) (w : World) (e : Ending) (w' : World) : Prop := ∃ t : ByteArray, e = .returned (.tuple #[.string t, .bool o.isSome]) ∧ t.data.toList = o.getD [] ∧ Q w w'
theorem v_zeros12 (w : World) : Calls Tryz.prog 184 #[.string ⟨#[48]⟩, .int .i64 12] w fun e w' => ∃ z : ByteArray, e = .returned (.string z) ∧ z.data.toList = List.replicate 12 48 ∧ z.size = 12 ∧ Q w w' := by
 refine Calls.mono (Tryz.strings_Repeat_main ⟨#[48]⟩ 12 w (by decide) (by decide) (by decide) (by decide)) ?_
 rintro e w' ⟨h1, h2⟩
 exact ⟨_, h1, rfl, rfl, h2⟩
set_option maxRecDepth 100000 in
set_option maxHeartbeats 2000000 in
theorem q_shortDigits (x : Value) (p : Rat) (w : World) (hT : Tb w) (hx : Nq w x p) (h0 : 0 ≤ p) (hB : 200 * sz p + 50000 ≤ LIM) : Calls Tryz.prog 128 #[x] w (ShRes (shortS (p * tenQ 12)) w) := by
 obtain ⟨s1, A1, n1, c1, A2, n2, c2, rfl, E1, Z1, O1, hxt, hxb⟩ := hx.form
 obtain ⟨w0, hW, hG0, hX0⟩ := boxes1 w s1 (.slice A1 n1 c1) (.slice A2 n2 c2)
 have hz1 := sz_ten 12
 have hz2 := sz_mul p (tenQ 12)
 have hu0 : 0 ≤ p * tenQ 12 := Rat.mul_nonneg h0 (Rat.le_of_lt (tenQ_pos _))
 have hB1 : 16 * (sz p + sz (tenQ 12)) + 100 ≤ LIM := by rw [LIM_eq] at *; omega
 generalize hu : p * tenQ 12 = u at *
 have HU := Lib.hid hu; clear hu
 have hzu : 100 * dg W64 u.num.natAbs + 100 ≤ LIM := by have := sz_num u; rw [LIM_eq] at *; omega
 have HB := Lib.hid hB; clear hB hz1 h0
 obtain ⟨x0, x1, x2⟩ := hX0.cells
 go_enter Tryz.func128, Tryz.ntmps128
 go_wp2_with fail
 clear hW
 have c0 : ∀ W, Q w0 W → W.cell? ⟨w.heap.size, 0, none⟩ = some (.bool s1) := fun W h => (hX0.q h).cells.1
 have c1' : ∀ W, Q w0 W → W.cell? ⟨w.heap.size, 1, none⟩ = some (.slice A1 n1 c1) := fun W h => (hX0.q h).cells.2.1
 have c2' : ∀ W, Q w0 W → W.cell? ⟨w.heap.size, 2, none⟩ = some (.slice A2 n2 c2) := fun W h => (hX0.q h).cells.2.2
 clear x0 x1 x2
 go_region_held3 (fun W => Q w0 W) (first | with_reducible exact (Q.refl w0).drew | with_reducible exact hq1 | with_reducible exact hS2 | with_reducible exact ((Q.refl w0).alloc _).drew | with_reducible exact hq1.alloc _ | with_reducible exact hS2.alloc _ | with_reducible exact ((hS2.setCell hgE0 _).setCell hgE0 _).setCell hgE0 _) (first
  | (go_at_call 29; (with_reducible refine (q_Mul _ _ p (tenQ 12) w1 (hT.q hG1) (hx.q hG1) htv hB1).mono ?_); rintro e w2 ⟨uv, rfl, huv, hq2⟩; rw [HU.out] at huv; obtain ⟨s3, A3, n3, c3, A4, n4, c4, rfl, E3, Z3, O3, hut, hub⟩ := huv.form; have hG2 := hG1.trans hq2; have hS2 := hq1.trans hq2; first | (have hE2 := hE1.q hq2; have fz := hE2.frozen; obtain ⟨r0, r1, r2⟩ := hE2.cells) | skip)
  | (go_at_call 29; (with_reducible refine (q_Mul _ _ p (tenQ 12) _ (hT.q (hG1.alloc _)) (hx.q (hG1.alloc _)) (htv.q ((Q.refl _).alloc _)) hB1).mono ?_); rintro e w2 ⟨uv, rfl, huv, hq2d⟩; have hq2 : Q w1 w2 := ((Q.refl _).alloc _).trans hq2d; rw [HU.out] at huv; obtain ⟨s3, A3, n3, c3, A4, n4, c4, rfl, E3, Z3, O3, hut, hub⟩ := huv.form; have hG2 := hG1.trans hq2; have hS2 := hq1.trans hq2; have hE2 := (Nb.new w1 false (.slice none 0 0) (.slice none 0 0)).q hq2d; have hgE0 : w0.heap.size ≤ w1.heap.size := hq1.size; have hgE := Nat.le_trans hG0.size hgE0; have fz := hE2.frozen; obtain ⟨r0, r1, r2⟩ := hE2.cells)
  | (go_at_call 124; (with_reducible refine (q_tens 12 w0.drew (by decide)).mono ?_); rintro e w1 ⟨tv, rfl, htv, hq1d⟩; have hq1 : Q w0 w1 := (Q.refl w0).drew.trans hq1d; obtain ⟨s7, A7, n7, c7, A8, n8, c8, rfl, -⟩ := htv.form; have hG1 := hG0.trans hq1)
  | (go_at_call 124; (with_reducible refine (q_tens 12 (w0.alloc (.cells #[.bool false, .slice none 0 0, .slice none 0 0] 25)).drew (by decide)).mono ?_); rintro e w1 ⟨tv, rfl, htv, hq1d⟩; have hq1 : Q w0 w1 := ((Q.refl w0).alloc _).drew.trans hq1d; obtain ⟨s7, A7, n7, c7, A8, n8, c8, rfl, -⟩ := htv.form; have hG1 := hG0.trans hq1; have hE1 : Nb w1 w0.heap.size false (.slice none 0 0) (.slice none 0 0) := (Nb.new w0 false (.slice none 0 0) (.slice none 0 0)).q ((Q.refl _).drew.trans hq1d); have hgE0 : w0.heap.size ≤ w0.heap.size := Nat.le_refl _; have hgE := hG0.size))
 have hEE : Nb (w2.alloc (.cells #[.bool s3, .slice A3 n3 c3, .slice A4 n4 c4] 25)) w2.heap.size s3 (.slice A3 n3 c3) (.slice A4 n4 c4) := Nb.new w2 _ _ _
 have hGE := hG2.alloc (.cells #[.bool s3, .slice A3 n3 c3, .slice A4 n4 c4] 25)
 have huE := huv.q ((Q.refl w2).alloc (.cells #[.bool s3, .slice A3 n3 c3, .slice A4 n4 c4] 25))
 generalize w2.alloc (.cells #[.bool s3, .slice A3 n3 c3, .slice A4 n4 c4] 25) = wE at hEE hGE huE ⊢
 generalize w2.heap.size = gE at hEE ⊢
 rotate_left
 have hEE := hE2.put (s := s3) (t := .slice A3 n3 c3) (b := .slice A4 n4 c4)
 have hGE := put3_q (g := w1.heap.size) (s := s3) (t := .slice A3 n3 c3) (b := .slice A4 n4 c4) hG2 hgE
 have huE := Nq.apart (s' := s3) (t' := .slice A3 n3 c3) (b' := .slice A4 n4 c4) huv hE2
 unfold put3 at hEE hGE huE
 generalize ((w2.setCell ⟨w1.heap.size, 0, none⟩ (.bool s3)).setCell ⟨w1.heap.size, 1, none⟩ (.slice A3 n3 c3)).setCell ⟨w1.heap.size, 2, none⟩ (.slice A4 n4 c4) = wE at hEE hGE huE ⊢
 generalize w1.heap.size = gE at hEE ⊢
 rotate_left
 have hEE := hE2.put (s := s3) (t := .slice A3 n3 c3) (b := .slice A4 n4 c4)
 have hGE := put3_q (g := w0.heap.size) (s := s3) (t := .slice A3 n3 c3) (b := .slice A4 n4 c4) hG2 hgE
 have huE := Nq.apart (s' := s3) (t' := .slice A3 n3 c3) (b' := .slice A4 n4 c4) huv hE2
 unfold put3 at hEE hGE huE
 generalize ((w2.setCell ⟨w0.heap.size, 0, none⟩ (.bool s3)).setCell ⟨w0.heap.size, 1, none⟩ (.slice A3 n3 c3)).setCell ⟨w0.heap.size, 2, none⟩ (.slice A4 n4 c4) = wE at hEE hGE huE ⊢
 generalize w0.heap.size = gE at hEE ⊢
 rotate_left
 all_goals
  clear c0 c1' c2' hut hub huv
  have hut := huE.top
  obtain ⟨U, hU⟩ : ∃ U, u.num.natAbs = U := ⟨_, rfl⟩
  rw [hU] at hut hzu
  have HUU := Lib.hid hU; clear hU
  have hutE := hut
  obtain ⟨e0, e1, e2⟩ := hEE.cells
  go_wp2_with fail
  refine (q_whole _ u _ huE).mono ?_
  rintro e w11 ⟨rfl, hq11⟩
  have hG11 := hGE.trans hq11
  have hE11 := hEE.q hq11
  clear e0 e1 e2
  obtain ⟨e0, e1, e2⟩ := hE11.cells
  by_cases hd : u.den = 1
  ·rw [decide_eq_true hd]
   have hS := shortS_of hu0 hd HUU.out
   have HS := Lib.hid hS; have HD := Lib.hid hd; clear hS hd
   go_wp2_with fail
   refine (v_countDigits _ U _ (hutE.q hq11) hzu).mono ?_
   rintro e w12 ⟨rfl, hq12⟩
   have hG12 := hG11.trans hq12
   have hE12 := hE11.q hq12
   clear e0 e1 e2
   obtain ⟨n, hn⟩ : ∃ n, (dec U).length = n := ⟨_, rfl⟩
   rw [hn]
   have HN := Lib.hid hn; clear hn
   by_cases hl : 412 < n
   ·have hl2 : (412 : Int) < (n : Int) := by omega
    have hno : shortS u = none := by rw [HS.out]; exact shortU_none (by rw [HN.out]; exact hl)
    have HNO := Lib.hid hno; clear hno hl
    go_wp2_with fail
    go_ret2
    exact ⟨⟨#[]⟩, ret_sb (by rw [HNO.out]; rfl), by rw [HNO.out]; rfl, hG12⟩
   ·have hl2 : ¬ (412 : Int) < (n : Int) := by omega
    have hn412 : n ≤ 412 := by omega
    have hdU : dg W64 U ≤ 1000000000 := by have := dg_dec U; rw [HN.out] at this; omega
    clear hl
    go_wp2_with fail
    obtain ⟨e0, e1, e2⟩ := hE12.cells
    refine wp_region_held_drew (S := fun W => W.cell? ⟨gE, 0, none⟩ = some (.bool s3) ∧ W.cell? ⟨gE, 1, none⟩ = some (.slice A3 n3 c3) ∧ W.cell? ⟨gE, 2, none⟩ = some (.slice A4 n4 c4)) (by kernel_rfl) (by exact ⟨e0, e1, e2⟩) (fun hHeld => ?_)
    refine wpAnyH_take (i := 1) (v := ?_) rfl (by kernel_rfl) (by kernel_rfl) (by kernel_rfl) (fun _ _ _ h => h) (Or.inl ⟨by rfl, ?_⟩) (by assumption) ?_
    rotate_left
    ·intro W hSw
     (try dsimp only at hSw)
     go_simp
     try (with_reducible rfl)
    try simp only [Act.put]
    try simp only [List.setIfInBounds_toArray]
    try simp only [List.set_cons_zero, List.set_cons_succ]
    refine wpAnyH_take (i := 2) (v := ?_) rfl (by kernel_rfl) (by kernel_rfl) (by kernel_rfl) (fun _ _ _ h => h) (Or.inl ⟨by rfl, ?_⟩) (by assumption) ?_
    rotate_left
    ·intro W hSw
     (try dsimp only at hSw)
     go_simp
     try (with_reducible rfl)
    try simp only [Act.put]
    try simp only [List.setIfInBounds_toArray]
    try simp only [List.set_cons_zero, List.set_cons_succ]
    refine wpAnyH_ready (rs := [0]) (by kernel_rfl) (by decide) (AllReadyH.cons rfl (fun K hK => ?_) AllReadyH.nil)
    go_simp
    (with_reducible refine (v_zeros12 _).mono ?_)
    rintro e w13 ⟨z, rfl, hz, hz12, hq13d⟩
    have hq13 : Q w12 w13 := (Q.refl w12).drew.trans hq13d
    have hG13 := hG12.trans hq13
    have hE13 := hE12.q hq13
    obtain ⟨e0, e1, e2⟩ := hE13.cells
    have HZ := Lib.hid hz
    clear hz
    have HZ12 := Lib.hid hz12
    have hz13 := Nat.le_of_eq hz12
    clear hz12
    go_wp2_with fail
    refine hK.out _ _ (by exact ⟨by assumption, by assumption, by assumption⟩) (fun hHeld => ?_)
    clear hK K
    try simp only [Act.put]
    try simp only [List.setIfInBounds_toArray]
    try simp only [List.set_cons_zero, List.set_cons_succ]
    refine wpAnyH_ready (rs := [3]) (by kernel_rfl) (by decide) (AllReadyH.cons rfl (fun K hK => ?_) AllReadyH.nil)
    go_simp
    (with_reducible refine (v_toDigits _ U _ ((hutE.q (hq11.trans hq12)).q hq13) hdU).mono ?_)
    rintro e w14 ⟨tb, rfl, htb, hq14⟩
    have hG14 := hG13.trans hq14
    have hE14 := hE13.q hq14
    obtain ⟨e0, e1, e2⟩ := hE14.cells
    have htn : tb.size = n := (Lib.size_eq tb).trans ((congrArg List.length htb).trans HN.out)
    have htn2 : tb.size ≤ 412 := (by omega)
    have HTB := Lib.hid htb
    have HTN := Lib.hid htn
    clear htb htn
    go_wp2_with fail
    refine hK.out _ _ (by exact ⟨by assumption, by assumption, by assumption⟩) (fun hHeld => ?_)
    clear hK K
    try simp only [Act.put]
    try simp only [List.setIfInBounds_toArray]
    try simp only [List.set_cons_zero, List.set_cons_succ]
    refine wpAnyH_ready (rs := [4]) (by kernel_rfl) (by decide) (AllReadyH.cons rfl (fun K hK => ?_) AllReadyH.nil)
    go_simp
    rw [if_neg (by omega)]
    go_simp
    refine hK.out _ _ (by exact ⟨by assumption, by assumption, by assumption⟩) (fun hHeld => ?_)
    clear hK K
    try simp only [Act.put]
    try simp only [List.setIfInBounds_toArray]
    try simp only [List.set_cons_zero, List.set_cons_succ]
    refine wpAnyH_take (i := 5) (v := ?_) rfl (by kernel_rfl) (by kernel_rfl) (by kernel_rfl) (fun _ _ _ h => h) (Or.inl ⟨by rfl, ?_⟩) (by assumption) ?_
    rotate_left
    ·intro W hSw
     (try dsimp only at hSw)
     go_simp
     try (with_reducible rfl)
    try simp only [Act.put]
    try simp only [List.setIfInBounds_toArray]
    try simp only [List.set_cons_zero, List.set_cons_succ]
    refine wpAnyH_done (by kernel_rfl) ?_ _
    all_goals
     obtain ⟨sa1, sa2⟩ := short_all U
     rw [HN.out] at sa1 sa2
     have hal : (z ++ tb).data.toList = List.replicate 12 48 ++ dec U := by rw [cat_list, HZ.out, HTB.out]
     have has : (z ++ tb).size = 12 + n := by rw [ByteArray.size_append, HZ12.out, HTN.out]
     rw [← hal] at sa1 sa2
     clear hal
     generalize z ++ tb = al at *
     have hpt : (al.size : Int) - 12 = (n : Int) := by omega
     have q1 : (0 : Int) ≤ (n : Int) := by omega
     have q2 : (n : Int) ≤ (al.size : Int) := by omega
     have q3 : al.size ≤ 424 := by omega
     have hex1 : (al.extract 0 n).data.toList = al.data.toList.take n := by rw [Lib.extract_data]; simp
     have hex2 : (al.extract n al.size).data.toList = al.data.toList.drop n := Lib.extract_to_end _ _
     have hxs : (al.extract n al.size).size ≤ 9223372036854775807 := by rw [Lib.size_eq, hex2, List.length_drop, ← Lib.size_eq]; omega
     obtain ⟨fa, hfa⟩ : ∃ fa : ByteArray, ⟨(Lib.trimLeftB (al.extract 0 n).data.toList 48).toArray⟩ = fa := ⟨_, rfl⟩
     obtain ⟨fb, hfb⟩ : ∃ fb : ByteArray, ⟨(Lib.trimRightB (al.extract n al.size).data.toList 48).toArray⟩ = fb := ⟨_, rfl⟩
     have la : fa.data.toList = if U / 1000000000000 = 0 then [] else dec (U / 1000000000000) := by rw [← hfa, ← sa2, ← hex1]; rfl
     have lb : fb.data.toList = rtrim (pd 12 (U % 1000000000000)) := by rw [← hfb, ← sa1, ← hex2]; rfl
     have hsh := shortU_of la lb
     rw [← HS.out] at hsh
     have hLC : ∀ W : World, Calls Tryz.prog 185 #[.string (al.extract 0 n), .string ⟨#[48]⟩] W fun e w' => e = .returned (.string fa) ∧ w' = W := fun W => by have h := Tryz.strings_TrimLeft_one (al.extract 0 n) 48 (by decide) W; rw [hfa] at h; exact h
     have hRC : ∀ W : World, Calls Tryz.prog 186 #[.string (al.extract n al.size), .string ⟨#[48]⟩] W fun e w' => e = .returned (.string fb) ∧ w' = W := fun W => by have h := Tryz.strings_TrimRight_one (al.extract n al.size) 48 (by decide) W hxs; rw [hfb] at h; exact h
     have HLC := Lib.hid hLC; have HRC := Lib.hid hRC; clear hLC hRC
     have fl1 : fa.size ≤ 424 := by rw [← hfa, Lib.size_eq, toList_mk]; exact Nat.le_trans (List.dropWhile_sublist _).length_le (by rw [hex1, List.length_take, ← Lib.size_eq]; omega)
     have fl2 : fb.size ≤ 424 := by rw [← hfb, Lib.size_eq, toList_mk]; unfold Lib.trimRightB; rw [List.length_reverse]; exact Nat.le_trans (List.dropWhile_sublist _).length_le (by rw [List.length_reverse, hex2, List.length_drop, ← Lib.size_eq]; omega)
     have ta := ByteArray.toList_eq fa
     have tbb := ByteArray.toList_eq fb
     have sza := Lib.size_eq fa
     have szb := Lib.size_eq fb
     generalize hfl : fa.data.toList = f at *
     generalize hbl : fb.data.toList = bb at *
     have HFA := Lib.hid hfa; have HFB := Lib.hid hfb; have HSH := Lib.hid hsh; have HFL := Lib.hid hfl; have HBL := Lib.hid hbl; have TA := Lib.hid ta; have TB2 := Lib.hid tbb; have SZA := Lib.hid sza; have SZB := Lib.hid szb
     clear hfa hfb hsh hfl hbl ta tbb sza szb sa1 sa2 la lb hex1 hex2 has
     go_wp2_with fail
     go_quiet ((first | (go_at_call 185; exact Calls.quiet_of_same (HLC.out _)) | (go_at_call 186; exact Calls.quiet_of_same (HRC.out _))))
     by_cases hf0 : f = []
     ·have faa : fa.toList = [] := TA.out.trans hf0
      have fab : (fa.toList == []) = true := by rw [faa]; rfl
      have fac : fa.toList.isEmpty = true := by rw [faa]; rfl
      have hsh2 : shortS u = if 400 < ([48] : List UInt8).length + bb.length then none else some ([48] ++ if bb = [] then [] else 46 :: bb) := by have h := HSH.out; rw [if_pos hf0] at h; exact h
      have HS2 := Lib.hid hsh2; clear hsh2
      have HF0 := Lib.hid hf0; clear hf0
      by_cases hll : 400 < ([48] : List UInt8).length + bb.length
      ·have hl4 : (400 : Int) < (1 : Int) + (fb.size : Int) := by rw [SZB.out]; simp at hll; omega
       have hno : shortS u = none := by rw [HS2.out, if_pos hll]
       have HNO := Lib.hid hno; clear hno hll
       go_wp2_with fail
       go_ret2
       exact ⟨⟨#[]⟩, ret_sb (by rw [HNO.out]; rfl), by rw [HNO.out]; rfl, hG14.drewN _⟩
      ·have hl4 : ¬ (400 : Int) < (1 : Int) + (fb.size : Int) := by rw [SZB.out]; simp at hll; omega
       by_cases hb0 : bb = []
       ·have fba : fb.toList = [] := TB2.out.trans hb0
        have fbb : (fb.toList == []) = true := by rw [fba]; rfl
        have fbc : fb.toList.isEmpty = true := by rw [fba]; rfl
        have hsome : shortS u = some ([48] ++ []) := by rw [HS2.out, if_neg hll, if_pos hb0]
        have HSO := Lib.hid hsome; clear hsome hll hb0
        go_wp2_with fail
        go_ret2
        exact ⟨⟨#[48]⟩, ret_sb (by rw [HSO.out]; rfl), by rw [HSO.out]; simp, hG14.drewN _⟩
       ·have fba : ¬ fb.toList = [] := fun h => hb0 (TB2.out.symm.trans h)
        have fbb : (fb.toList == []) = false := beq_eq_false_iff_ne.2 fba
        have fbc : fb.toList.isEmpty = false := by cases hx : fb.toList with | nil => exact absurd hx fba | cons _ _ => rfl
        have hsome : shortS u = some ([48] ++ 46 :: bb) := by rw [HS2.out, if_neg hll, if_neg hb0]
        have HSO := Lib.hid hsome; clear hsome hll hb0
        go_wp2_with fail
        go_ret2
        exact ⟨⟨#[48]⟩ ++ ⟨#[46]⟩ ++ fb, ret_sb (by rw [HSO.out]; rfl), by rw [HSO.out, cat_list, cat_list, HBL.out]; simp, hG14.drewN _⟩
     ·have faa : ¬ fa.toList = [] := fun h => hf0 (TA.out.symm.trans h)
      have fab : (fa.toList == []) = false := beq_eq_false_iff_ne.2 faa
      have fac : fa.toList.isEmpty = false := by cases hx : fa.toList with | nil => exact absurd hx faa | cons _ _ => rfl
      have hsh2 : shortS u = if 400 < (f : List UInt8).length + bb.length then none else some (f ++ if bb = [] then [] else 46 :: bb) := by have h := HSH.out; rw [if_neg hf0] at h; exact h
      have HS2 := Lib.hid hsh2; clear hsh2
      have HF0 := Lib.hid hf0; clear hf0
      by_cases hll : 400 < (f : List UInt8).length + bb.length
      ·have hl4 : (400 : Int) < (fa.size : Int) + (fb.size : Int) := by rw [SZB.out, SZA.out]; omega
       have hno : shortS u = none := by rw [HS2.out, if_pos hll]
       have HNO := Lib.hid hno; clear hno hll
       go_wp2_with fail
       go_ret2
       exact ⟨⟨#[]⟩, ret_sb (by rw [HNO.out]; rfl), by rw [HNO.out]; rfl, hG14.drewN _⟩
      ·have hl4 : ¬ (400 : Int) < (fa.size : Int) + (fb.size : Int) := by rw [SZB.out, SZA.out]; omega
       by_cases hb0 : bb = []
       ·have fba : fb.toList = [] := TB2.out.trans hb0
        have fbb : (fb.toList == []) = true := by rw [fba]; rfl
        have fbc : fb.toList.isEmpty = true := by rw [fba]; rfl
        have hsome : shortS u = some (f ++ []) := by rw [HS2.out, if_neg hll, if_pos hb0]
        have HSO := Lib.hid hsome; clear hsome hll hb0
        go_wp2_with fail
        go_ret2
        exact ⟨fa, ret_sb (by rw [HSO.out]; rfl), by rw [HSO.out]; simp; exact HFL.out, hG14.drewN _⟩
       ·have fba : ¬ fb.toList = [] := fun h => hb0 (TB2.out.symm.trans h)
        have fbb : (fb.toList == []) = false := beq_eq_false_iff_ne.2 fba
        have fbc : fb.toList.isEmpty = false := by cases hx : fb.toList with | nil => exact absurd hx fba | cons _ _ => rfl
        have hsome : shortS u = some (f ++ 46 :: bb) := by rw [HS2.out, if_neg hll, if_neg hb0]
        have HSO := Lib.hid hsome; clear hsome hll hb0
        go_wp2_with fail
        go_ret2
        exact ⟨fa ++ ⟨#[46]⟩ ++ fb, ret_sb (by rw [HSO.out]; rfl), by rw [HSO.out, cat_list, cat_list, HBL.out, HFL.out]; simp, hG14.drewN _⟩
  ·rw [decide_eq_false hd]
   have hno : shortS u = none := if_neg hd
   have HNO := Lib.hid hno; clear hno hd
   go_wp2_with fail
   go_ret2
   exact ⟨⟨#[]⟩, ret_sb (by rw [HNO.out]; rfl), by rw [HNO.out]; rfl, hG11⟩
end Go.Proofs.YtgokbhikgdhmpaaGreatDoor
namespace Go.Proofs.YtgokbhikgdhmpaaGreatDoor
open Go.RowKit
open Ma Me
theorem letter_len (i : Nat) : (letter i).length ≤ 1 := by
 unfold letter
 rcases Nat.lt_or_ge i 10 with h | h
 ·rcases (by omega : i = 0 ∨ i = 1 ∨ i = 2 ∨ i = 3 ∨ i = 4 ∨ i = 5 ∨ i = 6 ∨ i = 7 ∨ i = 8 ∨ i = 9) with rfl | rfl | rfl | rfl | rfl | rfl | rfl | rfl | rfl | rfl <;> decide
 ·rw [List.getElem?_eq_none (by simpa using h)]; decide
theorem short_len {u : Rat} {o : Option (List UInt8)} (h : shortS u = o) : ∀ d, o = some d → d.length ≤ 401 := by
 intro d hd
 subst hd
 unfold shortS at h
 split at h
 ·unfold shortU at h
  split at h
  ·cases h
  ·rename_i hl
   have e := Option.some.inj h
   rw [← e, List.length_append]
   split
   ·simp; omega
   ·rw [List.length_cons]; omega
 ·cases h
set_option maxRecDepth 100000 in
set_option maxHeartbeats 2000000 in
theorem q_Show (x : Value) (p : Rat) (w : World) (hT : Tb w) (hPx : Px w) (hx : Nq w x p) (hB : 2000 * sz p + 500000 ≤ LIM) : Calls Tryz.prog 27 #[x] w fun e w' => ∃ t : ByteArray, e = .returned (.string t) ∧ t.data.toList = showQ p ∧ Q w w' := by
 obtain ⟨s1, A1, n1, c1, A2, n2, c2, rfl, E1, Z1, O1, hxt, hxb⟩ := hx.form
 obtain ⟨w0, hW, hG0, hX0⟩ := boxes1 w s1 (.slice A1 n1 c1) (.slice A2 n2 c2)
 have HB := Lib.hid hB; clear hB
 by_cases hp0 : p = 0
 ·have k0 : ((n1 : Int) == 0) = true := by rw [Z1.out.2 hp0]; rfl
  have HS : Hid (showQ p = [48]) := if_pos hp0
  clear hp0
  obtain ⟨x0, x1, x2⟩ := hX0.cells
  go_enter Tryz.func27, Tryz.ntmps27
  go_wp2_with fail
  go_ret
  exact ⟨⟨#[48]⟩, rfl, HS.out.symm, hG0⟩
 ·have k0 : ((n1 : Int) == 0) = false := beq_eq_false_iff_ne.2 (fun h => hp0 (Z1.out.1 (by omega)))
  obtain ⟨i, hi⟩ : ∃ i, pIdx (absQ p) 10 = i := ⟨_, rfl⟩
  have hi10 := pIdx_lt (absQ p) 10 (by decide)
  rw [hi] at hi10
  obtain ⟨pw10, hpw⟩ : ∃ z : Int, pxPow i = z := ⟨_, rfl⟩
  obtain ⟨pl, hpl⟩ : ∃ b, pxLet i = b := ⟨_, rfl⟩
  have hpl2 : pl.data.toList = letter i := by rw [← hpl]; rfl
  have hplz : pl.size ≤ 1 := by rw [Lib.size_eq, hpl2]; exact letter_len i
  have hpb : -15 ≤ pw10 ∧ pw10 ≤ 15 := by rw [← hpw]; unfold pxPow; omega
  have hpb1 := hpb.1; have hpb2 := hpb.2; clear hpb
  have hun : unitsQ p = absQ p * tenQ (-pw10) * tenQ 12 := by unfold unitsQ; rw [hi, ← hpw]; unfold pxPow; congr 2; congr 1; omega
  have hsh : showQ p = match shortS (unitsQ p) with | some d => signT p ++ d ++ letter i | none => textQ p := by unfold showQ; rw [if_neg hp0, hi]; cases shortS (unitsQ p) <;> rfl
  obtain ⟨o, ho⟩ : ∃ o, shortS (unitsQ p) = o := ⟨_, rfl⟩
  rw [ho] at hsh
  rw [hun] at ho
  have hol := short_len ho
  have hzt := sz_ten (-pw10)
  have hzm := sz_mul (absQ p) (tenQ (-pw10))
  have hza := sz_abs p
  have hBm : 16 * (sz (absQ p) + sz (tenQ (-pw10))) + 100 ≤ LIM := by have := HB.out; rw [LIM_eq] at *; omega
  have hBs : 200 * sz (absQ p * tenQ (-pw10)) + 50000 ≤ LIM := by have := HB.out; rw [LIM_eq] at *; omega
  have hBp : 64 * sz (absQ p) + 2000 ≤ LIM := by have := HB.out; rw [LIM_eq] at *; omega
  have hBt : sz p ≤ 1000000000 := by have := HB.out; rw [LIM_eq] at *; omega
  have hnn : 0 ≤ absQ p * tenQ (-pw10) := Rat.mul_nonneg (by unfold absQ; split <;> grind) (Rat.le_of_lt (tenQ_pos _))
  have hm1 : (-pw10).natAbs ≤ 1000000 := by omega
  have HI := Lib.hid hi; clear hi
  have HPW := Lib.hid hpw; clear hpw
  have HPL := Lib.hid hpl; clear hpl
  have HPL2 := Lib.hid hpl2; clear hpl2
  have HSH := Lib.hid hsh; clear hsh
  have HO := Lib.hid ho; clear ho
  have HOL := Lib.hid hol; clear hol
  have HP0 := Lib.hid hp0; clear hp0
  have HNN := Lib.hid hnn; clear hnn
  clear hun hzt hzm hza
  obtain ⟨x0, x1, x2⟩ := hX0.cells
  go_enter Tryz.func27, Tryz.ntmps27
  go_wp2_with fail
  clear hW k0
  refine (q_size _ p _ (hx.q hG0)).mono ?_
  rintro e w1 ⟨v1, rfl, hv1, hq1⟩
  have hG1 := hG0.trans hq1
  have hX1 := hX0.q hq1
  clear x0 x1 x2
  obtain ⟨s5, A5, n5, c5, A6, n6, c6, rfl, -⟩ := hv1.form
  go_wp2_with fail
  refine (q_prefixOf _ (absQ p) _ (hPx.q hG1) hv1 hBp).mono ?_
  rintro e w2 ⟨rfl, hq2⟩
  have hG2 := hG1.trans hq2
  have hX2 := hX1.q hq2
  obtain ⟨x0, x1, x2⟩ := hX2.cells
  rw [HI.out, HPW.out, HPL.out]
  go_wp2_with fail
  refine (q_size _ p _ (hx.q hG2)).mono ?_
  rintro e w3 ⟨v2, rfl, hv2, hq3⟩
  have hG3 := hG2.trans hq3
  have hX3 := hX2.q hq3
  clear x0 x1 x2
  obtain ⟨x0, x1, x2⟩ := hX3.cells
  obtain ⟨s7, A7, n7, c7, A8, n8, c8, rfl, -⟩ := hv2.form
  go_wp2_with fail
  refine (q_tens (-pw10) _ hm1).mono ?_
  rintro e w4 ⟨v3, rfl, hv3, hq4⟩
  have hG4 := hG3.trans hq4
  have hX4 := hX3.q hq4
  clear x0 x1 x2
  obtain ⟨x0, x1, x2⟩ := hX4.cells
  obtain ⟨s9, A9, n9, c9, A10, n10, c10, rfl, -⟩ := hv3.form
  go_wp2_with fail
  refine (q_Mul _ _ (absQ p) (tenQ (-pw10)) _ (hT.q hG4) (hv2.q hq4) hv3 hBm).mono ?_
  rintro e w5 ⟨v4, rfl, hv4, hq5⟩
  have hG5 := hG4.trans hq5
  have hX5 := hX4.q hq5
  clear x0 x1 x2
  obtain ⟨x0, x1, x2⟩ := hX5.cells
  obtain ⟨s11, A11, n11, c11, A12, n12, c12, rfl, -⟩ := hv4.form
  go_wp2_with fail
  refine (q_shortDigits _ (absQ p * tenQ (-pw10)) _ (hT.q hG5) hv4 HNN.out hBs).mono ?_
  rintro e w6 ⟨td, rfl, htd, hq6⟩
  have hG6 := hG5.trans hq6
  have hX6 := hX5.q hq6
  clear x0 x1 x2
  obtain ⟨x0, x1, x2⟩ := hX6.cells
  rw [HO.out] at htd ⊢
  cases o with
  | none =>
   have hR : showQ p = textQ p := HSH.out
   have HR := Lib.hid hR; clear hR
   go_wp2_with fail
   refine (q_Text _ p _ (hx.q hG6) hBt).mono ?_
   rintro e w7 ⟨tt, rfl, htt, hq7⟩
   have hG7 := hG6.trans hq7
   have hX7 := hX6.q hq7
   clear x0 x1 x2
   have HTT := Lib.hid htt; clear htt
   go_wp2_with fail
   go_ret
   exact ⟨tt, rfl, HTT.out.trans HR.out.symm, hG7⟩
  | some d =>
   have hR : showQ p = signT p ++ d ++ letter i := HSH.out
   have HR := Lib.hid hR; clear hR
   have htd2 : td.data.toList = d := htd
   have htz : td.size ≤ 401 := by rw [Lib.size_eq, htd2]; exact HOL.out d rfl
   have HTD := Lib.hid htd2; clear htd htd2
   go_wp2_with fail
   refine (q_signText _ p _ (hx.q hG6)).mono ?_
   rintro e w7 ⟨ts, rfl, hts, hq7⟩
   have hG7 := hG6.trans hq7
   have hX7 := hX6.q hq7
   clear x0 x1 x2
   have hsz1 := sign_size hts
   have HTS := Lib.hid hts; clear hts
   go_wp2_with fail
   go_ret
   exact ⟨_, rfl, by rw [cat_list, cat_list, HTS.out, HTD.out, HPL2.out, HR.out], hG7⟩
end Go.Proofs.YtgokbhikgdhmpaaGreatDoor
namespace Go.Proofs.YtgokbhikgdhmpaaGreatDoor
open Go.RowKit
open Ma Me
def Ns (w : World) (v : Value) (p q : Rat) : Prop := ∃ s1 A1 n1 c1 A2 n2 c2 s2 A3 n3 c3 A4 n4 c4, v = .agg #[.bool s1, .slice A1 n1 c1, .slice A2 n2 c2, .bool s2, .slice A3 n3 c3, .slice A4 n4 c4] ∧
 Nq w (.agg #[.bool s1, .slice A1 n1 c1, .slice A2 n2 c2]) p ∧ Nq w (.agg #[.bool s2, .slice A3 n3 c3, .slice A4 n4 c4]) q
theorem Ns.q {w w' : World} {v : Value} {p q : Rat} (h : Ns w v p q) (hq : Q w w') : Ns w' v p q := by
 obtain ⟨s1, A1, n1, c1, A2, n2, c2, s2, A3, n3, c3, A4, n4, c4, e, h1, h2⟩ := h
 exact ⟨s1, A1, n1, c1, A2, n2, c2, s2, A3, n3, c3, A4, n4, c4, e, h1.q hq, h2.q hq⟩
def Sp (w : World) (g : Nat) (s1 : Bool) (t1 b1 : Value) (s2 : Bool) (t2 b2 : Value) : Prop := w.heap[g]? = some (.cells #[.bool s1, t1, b1, .bool s2, t2, b2] 70 (0, 0))
section
variable {w w' : World} {g : Nat} {s1 s2 : Bool} {t1 b1 t2 b2 : Value}
theorem Sp.cells (h : Sp w g s1 t1 b1 s2 t2 b2) : w.cell? ⟨g, 0, none⟩ = some (.bool s1) ∧ w.cell? ⟨g, 1, none⟩ = some t1 ∧ w.cell? ⟨g, 2, none⟩ = some b1 ∧ w.cell? ⟨g, 3, none⟩ = some (.bool s2) ∧ w.cell? ⟨g, 4, none⟩ = some t2 ∧ w.cell? ⟨g, 5, none⟩ = some b2 := by
 unfold Sp at h
 refine ⟨?_, ?_, ?_, ?_, ?_, ?_⟩ <;> simp [World.cell?, h]
theorem Sp.frozen (h : Sp w g s1 t1 b1 s2 t2 b2) (i : Nat) : w.frozen? ⟨g, i, none⟩ = false := by
 unfold Sp at h
 simp [World.frozen?, h]
theorem Sp.lt (h : Sp w g s1 t1 b1 s2 t2 b2) : g < w.heap.size := by
 rcases Nat.lt_or_ge g w.heap.size with hlt | hge
 ·exact hlt
 ·unfold Sp at h; rw [Array.getElem?_eq_none hge] at h; cases h
theorem Sp.q (h : Sp w g s1 t1 b1 s2 t2 b2) (hq : Q w w') : Sp w' g s1 t1 b1 s2 t2 b2 := (hq.heap h.lt).trans h
theorem Sp.new (w : World) (s1 : Bool) (t1 b1 : Value) (s2 : Bool) (t2 b2 : Value) : Sp (w.alloc (.cells #[.bool s1, t1, b1, .bool s2, t2, b2] 70)) w.heap.size s1 t1 b1 s2 t2 b2 := heap_alloc_new w _
end
def put6 (w : World) (g : Nat) (s1 : Bool) (t1 b1 : Value) (s2 : Bool) (t2 b2 : Value) : World :=
 (((((w.setCell ⟨g, 0, none⟩ (.bool s1)).setCell ⟨g, 1, none⟩ t1).setCell ⟨g, 2, none⟩ b1).setCell ⟨g, 3, none⟩ (.bool s2)).setCell ⟨g, 4, none⟩ t2).setCell ⟨g, 5, none⟩ b2
theorem Sp.put {w : World} {g : Nat} {s1 s2 s1' s2' : Bool} {t1 b1 t2 b2 t1' b1' t2' b2' : Value} (h : Sp w g s1' t1' b1' s2' t2' b2') : Sp (put6 w g s1 t1 b1 s2 t2 b2) g s1 t1 b1 s2 t2 b2 := by
 unfold Sp at h ⊢
 unfold put6
 simp [World.setCell, Array.getElem?_modify, h]
theorem put6_q {a w : World} {g : Nat} {s1 s2 : Bool} {t1 b1 t2 b2 : Value} (h : Q a w) (hg : a.heap.size ≤ g) : Q a (put6 w g s1 t1 b1 s2 t2 b2) :=
 (((((h.setCell (p := ⟨g, 0, none⟩) hg _).setCell (p := ⟨g, 1, none⟩) hg _).setCell (p := ⟨g, 2, none⟩) hg _).setCell (p := ⟨g, 3, none⟩) hg _).setCell (p := ⟨g, 4, none⟩) hg _).setCell (p := ⟨g, 5, none⟩) hg _
theorem put6_heap {w : World} {g k : Nat} {s1 s2 : Bool} {t1 b1 t2 b2 : Value} (h : k ≠ g) : (put6 w g s1 t1 b1 s2 t2 b2).heap[k]? = w.heap[k]? := by
 unfold put6
 rw [Below.heap_setCell _ _ _ _ h, Below.heap_setCell _ _ _ _ h, Below.heap_setCell _ _ _ _ h, Below.heap_setCell _ _ _ _ h, Below.heap_setCell _ _ _ _ h, Below.heap_setCell _ _ _ _ h]
theorem put6_size {w : World} {g : Nat} {s1 s2 : Bool} {t1 b1 t2 b2 : Value} : (put6 w g s1 t1 b1 s2 t2 b2).heap.size = w.heap.size := by
 unfold put6; simp
theorem Sp.no_word {w : World} {g o : Nat} {s1 s2 : Bool} {A1 A2 A3 A4 : Option Addr} {n1 c1 n2 c2 n3 c3 n4 c4 : Nat} {d : Int} (hb : Sp w g s1 (.slice A1 n1 c1) (.slice A2 n2 c2) s2 (.slice A3 n3 c3) (.slice A4 n4 c4)) : w.cell? ⟨g, o, none⟩ ≠ some (.int .u64 d) := by
 unfold Sp at hb
 intro h6
 simp only [World.cell?, hb] at h6
 rcases o with _ | _ | _ | _ | _ | _ | o <;> simp at h6
theorem Me.Nm.put6 {w : World} {x : Value} {N g : Nat} {s1 s2 s1' s2' : Bool} {A1 A2 A3 A4 : Option Addr} {n1 c1 n2 c2 n3 c3 n4 c4 : Nat} {t1' b1' t2' b2' : Value} (h : Nm w x N) (hb : Sp w g s1 (.slice A1 n1 c1) (.slice A2 n2 c2) s2 (.slice A3 n3 c3) (.slice A4 n4 c4)) : Nm (put6 w g s1' t1' b1' s2' t2' b2') x N := by
 obtain ⟨A, c, ws, rfl, h2, h3, h4, h5⟩ := h
 refine ⟨A, c, ws, rfl, h2, fun hn => ?_, h4, h5⟩
 obtain ⟨bl, o, rfl, hlt, hc⟩ := h3 hn
 have hne : bl ≠ g := by
  rintro rfl
  exact hb.no_word (hc 0 _ (List.getElem?_eq_getElem hn))
 refine ⟨bl, o, rfl, by rw [put6_size]; exact hlt, fun j d hd => ?_⟩
 have := hc j d hd
 unfold World.cell? at this ⊢
 rw [put6_heap hne]
 exact this
theorem Nq.apart6 {w : World} {v : Value} {q : Rat} {g : Nat} {s1 s2 s1' s2' : Bool} {A1 A2 A3 A4 : Option Addr} {n1 c1 n2 c2 n3 c3 n4 c4 : Nat} {t1' b1' t2' b2' : Value} (h : Nq w v q) (hb : Sp w g s1 (.slice A1 n1 c1) (.slice A2 n2 c2) s2 (.slice A3 n3 c3) (.slice A4 n4 c4)) : Nq (put6 w g s1' t1' b1' s2' t2' b2') v q := by
 obtain ⟨t, b, h1, h2, h3⟩ := h
 exact ⟨t, b, h1, h2.put6 hb, h3.put6 hb⟩
theorem Ns.store {a w : World} {g : Nat} {s1 s2 s1' s2' : Bool} {A1 A2 A3 A4 B1 B2 B3 B4 : Option Addr} {n1 c1 n2 c2 n3 c3 n4 c4 m1 d1 m2 d2 m3 d3 m4 d4 : Nat} {p q : Rat} (hr : Sp w g s1' (.slice B1 m1 d1) (.slice B2 m2 d2) s2' (.slice B3 m3 d3) (.slice B4 m4 d4))
    (hlo : Nq w (.agg #[.bool s1, .slice A1 n1 c1, .slice A2 n2 c2]) p) (hhi : Nq w (.agg #[.bool s2, .slice A3 n3 c3, .slice A4 n4 c4]) q) (hq : Q a w) (hg : a.heap.size ≤ g) :
    (put6 w g s1 (.slice A1 n1 c1) (.slice A2 n2 c2) s2 (.slice A3 n3 c3) (.slice A4 n4 c4)).cell? ⟨g, 0, none⟩ = some (.bool s1) ∧ (put6 w g s1 (.slice A1 n1 c1) (.slice A2 n2 c2) s2 (.slice A3 n3 c3) (.slice A4 n4 c4)).cell? ⟨g, 1, none⟩ = some (.slice A1 n1 c1) ∧
    (put6 w g s1 (.slice A1 n1 c1) (.slice A2 n2 c2) s2 (.slice A3 n3 c3) (.slice A4 n4 c4)).cell? ⟨g, 2, none⟩ = some (.slice A2 n2 c2) ∧ (put6 w g s1 (.slice A1 n1 c1) (.slice A2 n2 c2) s2 (.slice A3 n3 c3) (.slice A4 n4 c4)).cell? ⟨g, 3, none⟩ = some (.bool s2) ∧
    (put6 w g s1 (.slice A1 n1 c1) (.slice A2 n2 c2) s2 (.slice A3 n3 c3) (.slice A4 n4 c4)).cell? ⟨g, 4, none⟩ = some (.slice A3 n3 c3) ∧ (put6 w g s1 (.slice A1 n1 c1) (.slice A2 n2 c2) s2 (.slice A3 n3 c3) (.slice A4 n4 c4)).cell? ⟨g, 5, none⟩ = some (.slice A4 n4 c4) ∧
    Ns (put6 w g s1 (.slice A1 n1 c1) (.slice A2 n2 c2) s2 (.slice A3 n3 c3) (.slice A4 n4 c4)) (.agg #[.bool s1, .slice A1 n1 c1, .slice A2 n2 c2, .bool s2, .slice A3 n3 c3, .slice A4 n4 c4]) p q ∧ Q a (put6 w g s1 (.slice A1 n1 c1) (.slice A2 n2 c2) s2 (.slice A3 n3 c3) (.slice A4 n4 c4)) := by
  obtain ⟨r0, r1, r2, r3, r4, r5⟩ := (hr.put (s1 := s1) (t1 := .slice A1 n1 c1) (b1 := .slice A2 n2 c2) (s2 := s2) (t2 := .slice A3 n3 c3) (b2 := .slice A4 n4 c4)).cells
  exact ⟨r0, r1, r2, r3, r4, r5, ⟨_, _, _, _, _, _, _, _, _, _, _, _, _, _, rfl, hlo.apart6 hr, hhi.apart6 hr⟩, put6_q hq hg⟩
theorem boxS1r (w : World) (s1 : Bool) (t1 b1 : Value) (s2 : Bool) (t2 b2 : Value) : ∃ W, (w.alloc (.cells #[.bool s1, t1, b1, .bool s2, t2, b2] 70)).alloc (.cells #[.bool false, .slice none 0 0, .slice none 0 0, .bool false, .slice none 0 0, .slice none 0 0] 70) = W ∧
    Q w W ∧ Sp W w.heap.size s1 t1 b1 s2 t2 b2 ∧ Sp W (w.heap.size + 1) false (.slice none 0 0) (.slice none 0 0) false (.slice none 0 0) (.slice none 0 0) := by
  have h1 := Sp.new w s1 t1 b1 s2 t2 b2
  have h2 := Sp.new (w.alloc (.cells #[.bool s1, t1, b1, .bool s2, t2, b2] 70)) false (.slice none 0 0) (.slice none 0 0) false (.slice none 0 0) (.slice none 0 0)
  rw [World.size_alloc] at h2
  exact ⟨_, rfl, ((Q.refl _).alloc _).alloc _, h1.q ((Q.refl _).alloc _), h2⟩
set_option maxRecDepth 100000 in
set_option maxHeartbeats 1000000 in
theorem q_ordered (a : Value) (p q : Rat) (w : World) (ha : Ns w a p q) (hB : 64 * (sz p + sz q) + 400 ≤ LIM) : Calls Tryz.prog 153 #[a] w fun e w' => ∃ r, e = .returned r ∧ Ns w' r (rmin p q) (rmax p q) ∧ Q w w' := by
 obtain ⟨s11, A11, n11, c11, A12, n12, c12, s12, A13, n13, c13, A14, n14, c14, rfl, lo1, hi1⟩ := ha
 obtain ⟨w0, hW, hG0, hA0, hT0⟩ := boxS1r w s11 (.slice A11 n11 c11) (.slice A12 n12 c12) s12 (.slice A13 n13 c13) (.slice A14 n14 c14)
 have HB := Lib.hid hB; clear hB
 obtain ⟨c, hc⟩ : ∃ c, rc p q = c := ⟨_, rfl⟩
 have hle := rc_le p q
 rw [hc] at hle
 have HC := Lib.hid hc; have HLE := Lib.hid hle; clear hc hle
 by_cases h : 0 < c
 ·have HH := Lib.hid h
  have hnle : ¬ p ≤ q := fun h1 => by have := HLE.out.2 h1; have := HH.out; omega
  have hge : q ≤ p := by grind
  have hm1 : rmin p q = q := if_neg hnle
  have hm2 : rmax p q = p := if_pos hge
  rw [hm1, hm2]
  clear hm1 hm2 hnle hge
  obtain ⟨a0, a1, a2, a3, a4, a5⟩ := hA0.cells
  go_enter Tryz.func153, Tryz.ntmps153
  go_wp2_with fail
  clear hW
  refine (q_Cmp _ _ p q _ (lo1.q hG0) (hi1.q hG0) HB.out).mono ?_
  rintro e w1 ⟨rfl, hq1⟩
  have hG1 := hG0.trans hq1
  have hA1 := hA0.q hq1
  have hT1 := hT0.q hq1
  clear a0 a1 a2 a3 a4 a5
  obtain ⟨a0, a1, a2, a3, a4, a5⟩ := hA1.cells
  have fz := hT1.frozen
  obtain ⟨r0, r1, r2, r3, r4, r5⟩ := hT1.cells
  rw [HC.out]
  go_wp2_with fail
  obtain ⟨z0, z1, z2, z3, z4, z5, hvF, hqF⟩ := Ns.store hT1 (hi1.q hG1) (lo1.q hG1) hG1 (Nat.le_add_right _ _)
  unfold put6 at z0 z1 z2 z3 z4 z5 hvF hqF
  refine bodyPost_ret (v := .agg #[.bool s12, .slice A13 n13 c13, .slice A14 n14 c14, .bool s11, .slice A11 n11 c11, .slice A12 n12 c12]) (by simp [results, Tryz.results153, go_sem, z0, z1, z2, z3, z4, z5]) rfl ?_
  exact ⟨_, rfl, hvF, hqF⟩
 ·have HH := Lib.hid h
  have hm1 : rmin p q = p := if_pos (HLE.out.1 (by have := HH.out; omega))
  have hm2 : rmax p q = q := rmax_of (HLE.out.1 (by have := HH.out; omega))
  rw [hm1, hm2]
  clear hm1 hm2
  obtain ⟨a0, a1, a2, a3, a4, a5⟩ := hA0.cells
  go_enter Tryz.func153, Tryz.ntmps153
  go_wp2_with fail
  clear hW
  refine (q_Cmp _ _ p q _ (lo1.q hG0) (hi1.q hG0) HB.out).mono ?_
  rintro e w1 ⟨rfl, hq1⟩
  have hG1 := hG0.trans hq1
  have hA1 := hA0.q hq1
  have hT1 := hT0.q hq1
  clear a0 a1 a2 a3 a4 a5
  obtain ⟨a0, a1, a2, a3, a4, a5⟩ := hA1.cells
  have fz := hT1.frozen
  obtain ⟨r0, r1, r2, r3, r4, r5⟩ := hT1.cells
  rw [HC.out]
  go_wp2_with fail
  obtain ⟨z0, z1, z2, z3, z4, z5, hvF, hqF⟩ := Ns.store hT1 (lo1.q hG1) (hi1.q hG1) hG1 (Nat.le_add_right _ _)
  unfold put6 at z0 z1 z2 z3 z4 z5 hvF hqF
  refine bodyPost_ret (v := .agg #[.bool s11, .slice A11 n11 c11, .slice A12 n12 c12, .bool s12, .slice A13 n13 c13, .slice A14 n14 c14]) (by simp [results, Tryz.results153, go_sem, z0, z1, z2, z3, z4, z5]) rfl ?_
  exact ⟨_, rfl, hvF, hqF⟩
end Go.Proofs.YtgokbhikgdhmpaaGreatDoor
namespace Go.Proofs.YtgokbhikgdhmpaaGreatDoor.K
open Go.RowKit
open Ma Me
theorem nq_ap {w w' : World} {v : Value} {q : Rat} {g : Nat} (h : Nq w v q) (ha : Ap w w' g) : Nq w' v q := by
 obtain ⟨t, b, e, h1, h2⟩ := h
 exact ⟨t, b, e, ha.nm h1, ha.nm h2⟩
def pNum (q : Rat) : Pr := ⟨fun v w => Nq w v q, fun h hq => Nq.q h hq, true, fun _ h ha => nq_ap h ha⟩
def pSpan (p q : Rat) : Pr := ⟨fun v w => Ns w v p q, fun h hq => Ns.q h hq, true,
 fun _ ⟨s1, A1, n1, c1, A2, n2, c2, s2, A3, n3, c3, A4, n4, c4, e, h1, h2⟩ ha => ⟨s1, A1, n1, c1, A2, n2, c2, s2, A3, n3, c3, A4, n4, c4, e, nq_ap h1 ha, nq_ap h2 ha⟩⟩
theorem nqNone (w : World) : Nq w (.agg #[.bool false, .slice none 0 0, .slice none 0 0]) 0 := ⟨_, _, rfl, Nm.zero Option.none 0, Nm.zero Option.none 0⟩
section
variable {w : World} {s1 s2 : Bool} {A1 A2 A3 A4 : Option Addr} {n1 c1 n2 c2 n3 c3 n4 c4 : Nat} {p q : Rat}
theorem nsParts (h : Ns w (.agg #[.bool s1, .slice A1 n1 c1, .slice A2 n2 c2, .bool s2, .slice A3 n3 c3, .slice A4 n4 c4]) p q) : Nq w (.agg #[.bool s1, .slice A1 n1 c1, .slice A2 n2 c2]) p ∧ Nq w (.agg #[.bool s2, .slice A3 n3 c3, .slice A4 n4 c4]) q := by
 obtain ⟨s1', A1', n1', c1', A2', n2', c2', s2', A3', n3', c3', A4', n4', c4', e, h⟩ := h
 simp only [Value.agg.injEq, Array.mk.injEq, List.cons.injEq, Value.bool.injEq, Value.slice.injEq, and_true] at e
 obtain ⟨rfl, ⟨rfl, rfl, rfl⟩, ⟨rfl, rfl, rfl⟩, rfl, ⟨rfl, rfl, rfl⟩, rfl, rfl, rfl⟩ := e
 exact h
end
end Go.Proofs.YtgokbhikgdhmpaaGreatDoor.K
namespace Go.Proofs.YtgokbhikgdhmpaaGreatDoor
open Go.RowKit
open Ma Me
theorem keep6 {w : World} {g b o : Nat} {x0 x1 x2 x3 x4 x5 : Value} (h : b ≠ g) : ((((((w.setCell ⟨g, 0, none⟩ x0).setCell ⟨g, 1, none⟩ x1).setCell ⟨g, 2, none⟩ x2).setCell ⟨g, 3, none⟩ x3).setCell ⟨g, 4, none⟩ x4).setCell ⟨g, 5, none⟩ x5).cell? ⟨b, o, none⟩ = w.cell? ⟨b, o, none⟩ := by
 have ne : ∀ k, (⟨g, k, none⟩ : Addr) ≠ ⟨b, o, none⟩ := fun k e => by cases e; exact h rfl
 have ne' : ∀ k, (⟨b, o, none⟩ : Addr) ≠ ⟨g, k, none⟩ := fun k e => by cases e; exact h rfl
 first
  | rw [World.cell?_setCell_other _ _ _ _ (ne _), World.cell?_setCell_other _ _ _ _ (ne _), World.cell?_setCell_other _ _ _ _ (ne _), World.cell?_setCell_other _ _ _ _ (ne _), World.cell?_setCell_other _ _ _ _ (ne _), World.cell?_setCell_other _ _ _ _ (ne _)]
  | rw [World.cell?_setCell_other _ _ _ _ (ne' _), World.cell?_setCell_other _ _ _ _ (ne' _), World.cell?_setCell_other _ _ _ _ (ne' _), World.cell?_setCell_other _ _ _ _ (ne' _), World.cell?_setCell_other _ _ _ _ (ne' _), World.cell?_setCell_other _ _ _ _ (ne' _)]
set_option maxRecDepth 100000 in
set_option maxHeartbeats 1000000 in
theorem q_Sopposite (a : Value) (p q : Rat) (w : World) (ha : Ns w a p q) : Calls Tryz.prog 159 #[a] w fun e w' => ∃ r, e = .returned r ∧ Ns w' r (-q) (-p) ∧ Q w w' := by
 obtain ⟨s11, A11, n11, c11, A12, n12, c12, s12, A13, n13, c13, A14, n14, c14, rfl, lo1, hi1⟩ := ha
 obtain ⟨w0, hW, hG0, hA0, hT0⟩ := boxS1r w s11 (.slice A11 n11 c11) (.slice A12 n12 c12) s12 (.slice A13 n13 c13) (.slice A14 n14 c14)
 obtain ⟨a0, a1, a2, a3, a4, a5⟩ := hA0.cells
 go_enter Tryz.func159, Tryz.ntmps159
 go_wp2_with fail
 clear hW
 clear a0 a1 a2 a3 a4 a5
 obtain ⟨a0, a1, a2, a3, a4, a5⟩ := hA0.cells
 refine wp_region_held_drew (S := fun W => W.cell? ⟨w.heap.size, 0, none⟩ = some (.bool s11) ∧ W.cell? ⟨w.heap.size, 1, none⟩ = some (.slice A11 n11 c11) ∧ W.cell? ⟨w.heap.size, 2, none⟩ = some (.slice A12 n12 c12) ∧ W.cell? ⟨w.heap.size, 3, none⟩ = some (.bool s12) ∧ W.cell? ⟨w.heap.size, 4, none⟩ = some (.slice A13 n13 c13) ∧ W.cell? ⟨w.heap.size, 5, none⟩ = some (.slice A14 n14 c14)) (by kernel_rfl) (by exact ⟨a0, a1, a2, a3, a4, a5⟩) (fun hHeld => ?_)
 refine wpAnyH_take (i := 0) (v := ?v0) rfl (by kernel_rfl) (by kernel_rfl) (by kernel_rfl) (fun _ _ _ h => h) (Or.inl ⟨by rfl, ?h0⟩) (by assumption) ?r0
 case h0 =>
  intro W hSw
  (try dsimp only at hSw)
  go_simp
  try (with_reducible rfl)
 try simp only [Act.put]
 try simp only [List.setIfInBounds_toArray]
 try simp only [List.set_cons_succ]
 try simp only [List.set_cons_zero]
 refine wpAnyH_take (i := 1) (v := ?v1) rfl (by kernel_rfl) (by kernel_rfl) (by kernel_rfl) (fun _ _ _ h => h) (Or.inl ⟨by rfl, ?h1⟩) (by assumption) ?r1
 case h1 =>
  intro W hSw
  (try dsimp only at hSw)
  go_simp
  try (with_reducible rfl)
 try simp only [Act.put]
 try simp only [List.setIfInBounds_toArray]
 try simp only [List.set_cons_succ]
 try simp only [List.set_cons_zero]
 refine wpAnyH_take (i := 3) (v := ?v3) rfl (by kernel_rfl) (by kernel_rfl) (by kernel_rfl) (fun _ _ _ h => h) (Or.inl ⟨by rfl, ?h3⟩) (by assumption) ?r3
 case h3 =>
  intro W hSw
  (try dsimp only at hSw)
  go_simp
  try (with_reducible rfl)
 try simp only [Act.put]
 try simp only [List.setIfInBounds_toArray]
 try simp only [List.set_cons_succ]
 try simp only [List.set_cons_zero]
 refine wpAnyH_take (i := 4) (v := ?v4) rfl (by kernel_rfl) (by kernel_rfl) (by kernel_rfl) (fun _ _ _ h => h) (Or.inl ⟨by rfl, ?h4⟩) (by assumption) ?r4
 case h4 =>
  intro W hSw
  (try dsimp only at hSw)
  go_simp
  try (with_reducible rfl)
 try simp only [Act.put]
 try simp only [List.setIfInBounds_toArray]
 try simp only [List.set_cons_succ]
 try simp only [List.set_cons_zero]
 refine wpAnyH_ready (rs := [2]) (by kernel_rfl) (by decide) (AllReadyH.cons rfl (fun K hK => ?_) AllReadyH.nil)
 go_simp
 (with_reducible refine (q_opposite _ q _ (hi1.q hG0.drew)).mono ?_)
 rintro e w1 ⟨v1, rfl, hv1, hq1d⟩
 have hq1 : Q w0 w1 := (Q.refl w0).drew.trans hq1d
 have hG1 := hG0.trans hq1
 have hA1 := hA0.q hq1
 have hT1 := hT0.q hq1
 obtain ⟨a0, a1, a2, a3, a4, a5⟩ := hA1.cells
 obtain ⟨t1, B1, m1, d1, C1, l1, g1, rfl, -⟩ := hv1.form
 go_wp2_with fail
 refine hK.out _ _ (by with_reducible exact ⟨a0, a1, a2, a3, a4, a5⟩) (fun hHeld => ?_)
 clear hK K
 try simp only [Act.put]
 try simp only [List.setIfInBounds_toArray]
 try simp only [List.set_cons_succ]
 try simp only [List.set_cons_zero]
 refine wpAnyH_ready (rs := [5]) (by kernel_rfl) (by decide) (AllReadyH.cons rfl (fun K hK => ?_) AllReadyH.nil)
 go_simp
 (with_reducible refine (q_opposite _ p _ (lo1.q hG1)).mono ?_)
 rintro e w2 ⟨v2, rfl, hv2, hq2⟩
 have hG2 := hG1.trans hq2
 have hA2 := hA1.q hq2
 have hT2 := hT1.q hq2
 obtain ⟨a0, a1, a2, a3, a4, a5⟩ := hA2.cells
 have fz := hT2.frozen
 obtain ⟨r0, r1, r2, r3, r4, r5⟩ := hT2.cells
 obtain ⟨t2, B2, m2, d2, C2, l2, g2, rfl, -⟩ := hv2.form
 go_wp2_with fail
 refine hK.out _ _ (by with_reducible exact ⟨a0, a1, a2, a3, a4, a5⟩) (fun hHeld => ?_)
 clear hK K
 try simp only [Act.put]
 try simp only [List.setIfInBounds_toArray]
 try simp only [List.set_cons_succ]
 try simp only [List.set_cons_zero]
 refine wpAnyH_take (i := 6) (v := ?v6) rfl (by kernel_rfl) (by kernel_rfl) (by kernel_rfl) (fun _ _ _ h => h) (Or.inl ⟨by rfl, ?h6⟩) (by assumption) ?r6
 case h6 =>
  intro W hSw
  (try dsimp only at hSw)
  go_simp
  try (with_reducible rfl)
 try simp only [Act.put]
 try simp only [List.setIfInBounds_toArray]
 try simp only [List.set_cons_succ]
 try simp only [List.set_cons_zero]
 refine wpAnyH_ready (rs := [7]) (by kernel_rfl) (by decide) (AllReadyH.cons rfl (fun K hK => ?_) AllReadyH.nil)
 go_simp
 refine hK.out _ _ (by exact ⟨(keep6 neX1).trans a0, (keep6 neX1).trans a1, (keep6 neX1).trans a2, (keep6 neX1).trans a3, (keep6 neX1).trans a4, (keep6 neX1).trans a5⟩) (fun hHeld => ?_)
 clear hK K
 try simp only [Act.put]
 try simp only [List.setIfInBounds_toArray]
 try simp only [List.set_cons_succ]
 try simp only [List.set_cons_zero]
 refine wpAnyH_done (by kernel_rfl) ?_ _
 go_wp2_with fail
 obtain ⟨z0, z1, z2, z3, z4, z5, hvF, hqF⟩ := Ns.store hT2 (hv1.q hq2) hv2 hG2 (Nat.le_add_right _ _)
 unfold put6 at z0 z1 z2 z3 z4 z5 hvF hqF
 refine bodyPost_ret (v := .agg #[.bool t1, .slice B1 m1 d1, .slice C1 l1 g1, .bool t2, .slice B2 m2 d2, .slice C2 l2 g2]) (by simp [results, Tryz.results159, go_sem, z0, z1, z2, z3, z4, z5]) rfl ?_
 exact ⟨_, rfl, hvF, hqF⟩
set_option maxRecDepth 100000 in
set_option maxHeartbeats 1000000 in
theorem q_Scopied (a : Value) (p q : Rat) (w : World) (ha : Ns w a p q) (hB : sz p + sz q ≤ LIM) : Calls Tryz.prog 156 #[a] w fun e w' => ∃ r, e = .returned r ∧ Ns w' r (p) (q) ∧ Q w w' := by
 obtain ⟨s11, A11, n11, c11, A12, n12, c12, s12, A13, n13, c13, A14, n14, c14, rfl, lo1, hi1⟩ := ha
 obtain ⟨w0, hW, hG0, hA0, hT0⟩ := boxS1r w s11 (.slice A11 n11 c11) (.slice A12 n12 c12) s12 (.slice A13 n13 c13) (.slice A14 n14 c14)
 have bp1 : dg W64 p.num.natAbs ≤ LIM := by have := sz_num p; omega
 have bp2 : dg W64 p.den ≤ LIM := by have := sz_den p; omega
 have bq1 : dg W64 q.num.natAbs ≤ LIM := by have := sz_num q; omega
 have bq2 : dg W64 q.den ≤ LIM := by have := sz_den q; omega
 obtain ⟨a0, a1, a2, a3, a4, a5⟩ := hA0.cells
 go_enter Tryz.func156, Tryz.ntmps156
 go_wp2_with fail
 clear hW
 clear a0 a1 a2 a3 a4 a5
 obtain ⟨a0, a1, a2, a3, a4, a5⟩ := hA0.cells
 refine wp_region_held_drew (S := fun W => W.cell? ⟨w.heap.size, 0, none⟩ = some (.bool s11) ∧ W.cell? ⟨w.heap.size, 1, none⟩ = some (.slice A11 n11 c11) ∧ W.cell? ⟨w.heap.size, 2, none⟩ = some (.slice A12 n12 c12) ∧ W.cell? ⟨w.heap.size, 3, none⟩ = some (.bool s12) ∧ W.cell? ⟨w.heap.size, 4, none⟩ = some (.slice A13 n13 c13) ∧ W.cell? ⟨w.heap.size, 5, none⟩ = some (.slice A14 n14 c14)) (by kernel_rfl) (by exact ⟨a0, a1, a2, a3, a4, a5⟩) (fun hHeld => ?_)
 refine wpAnyH_take (i := 0) (v := ?v0) rfl (by kernel_rfl) (by kernel_rfl) (by kernel_rfl) (fun _ _ _ h => h) (Or.inl ⟨by rfl, ?h0⟩) (by assumption) ?r0
 case h0 =>
  intro W hSw
  (try dsimp only at hSw)
  go_simp
  try (with_reducible rfl)
 try simp only [Act.put]
 try simp only [List.setIfInBounds_toArray]
 try simp only [List.set_cons_succ]
 try simp only [List.set_cons_zero]
 refine wpAnyH_take (i := 1) (v := ?v1) rfl (by kernel_rfl) (by kernel_rfl) (by kernel_rfl) (fun _ _ _ h => h) (Or.inl ⟨by rfl, ?h1⟩) (by assumption) ?r1
 case h1 =>
  intro W hSw
  (try dsimp only at hSw)
  go_simp
  try (with_reducible rfl)
 try simp only [Act.put]
 try simp only [List.setIfInBounds_toArray]
 try simp only [List.set_cons_succ]
 try simp only [List.set_cons_zero]
 refine wpAnyH_take (i := 3) (v := ?v3) rfl (by kernel_rfl) (by kernel_rfl) (by kernel_rfl) (fun _ _ _ h => h) (Or.inl ⟨by rfl, ?h3⟩) (by assumption) ?r3
 case h3 =>
  intro W hSw
  (try dsimp only at hSw)
  go_simp
  try (with_reducible rfl)
 try simp only [Act.put]
 try simp only [List.setIfInBounds_toArray]
 try simp only [List.set_cons_succ]
 try simp only [List.set_cons_zero]
 refine wpAnyH_take (i := 4) (v := ?v4) rfl (by kernel_rfl) (by kernel_rfl) (by kernel_rfl) (fun _ _ _ h => h) (Or.inl ⟨by rfl, ?h4⟩) (by assumption) ?r4
 case h4 =>
  intro W hSw
  (try dsimp only at hSw)
  go_simp
  try (with_reducible rfl)
 try simp only [Act.put]
 try simp only [List.setIfInBounds_toArray]
 try simp only [List.set_cons_succ]
 try simp only [List.set_cons_zero]
 refine wpAnyH_ready (rs := [2]) (by kernel_rfl) (by decide) (AllReadyH.cons rfl (fun K hK => ?_) AllReadyH.nil)
 go_simp
 (with_reducible refine (q_copied _ p _ (lo1.q hG0.drew) bp1 bp2).mono ?_)
 rintro e w1 ⟨v1, rfl, hv1, hq1d⟩
 have hq1 : Q w0 w1 := (Q.refl w0).drew.trans hq1d
 have hG1 := hG0.trans hq1
 have hA1 := hA0.q hq1
 have hT1 := hT0.q hq1
 obtain ⟨a0, a1, a2, a3, a4, a5⟩ := hA1.cells
 obtain ⟨t1, B1, m1, d1, C1, l1, g1, rfl, -⟩ := hv1.form
 go_wp2_with fail
 refine hK.out _ _ (by with_reducible exact ⟨a0, a1, a2, a3, a4, a5⟩) (fun hHeld => ?_)
 clear hK K
 try simp only [Act.put]
 try simp only [List.setIfInBounds_toArray]
 try simp only [List.set_cons_succ]
 try simp only [List.set_cons_zero]
 refine wpAnyH_ready (rs := [5]) (by kernel_rfl) (by decide) (AllReadyH.cons rfl (fun K hK => ?_) AllReadyH.nil)
 go_simp
 (with_reducible refine (q_copied _ q _ (hi1.q hG1) bq1 bq2).mono ?_)
 rintro e w2 ⟨v2, rfl, hv2, hq2⟩
 have hG2 := hG1.trans hq2
 have hA2 := hA1.q hq2
 have hT2 := hT1.q hq2
 obtain ⟨a0, a1, a2, a3, a4, a5⟩ := hA2.cells
 have fz := hT2.frozen
 obtain ⟨r0, r1, r2, r3, r4, r5⟩ := hT2.cells
 obtain ⟨t2, B2, m2, d2, C2, l2, g2, rfl, -⟩ := hv2.form
 go_wp2_with fail
 refine hK.out _ _ (by with_reducible exact ⟨a0, a1, a2, a3, a4, a5⟩) (fun hHeld => ?_)
 clear hK K
 try simp only [Act.put]
 try simp only [List.setIfInBounds_toArray]
 try simp only [List.set_cons_succ]
 try simp only [List.set_cons_zero]
 refine wpAnyH_take (i := 6) (v := ?v6) rfl (by kernel_rfl) (by kernel_rfl) (by kernel_rfl) (fun _ _ _ h => h) (Or.inl ⟨by rfl, ?h6⟩) (by assumption) ?r6
 case h6 =>
  intro W hSw
  (try dsimp only at hSw)
  go_simp
  try (with_reducible rfl)
 try simp only [Act.put]
 try simp only [List.setIfInBounds_toArray]
 try simp only [List.set_cons_succ]
 try simp only [List.set_cons_zero]
 refine wpAnyH_ready (rs := [7]) (by kernel_rfl) (by decide) (AllReadyH.cons rfl (fun K hK => ?_) AllReadyH.nil)
 go_simp
 refine hK.out _ _ (by exact ⟨(keep6 neX1).trans a0, (keep6 neX1).trans a1, (keep6 neX1).trans a2, (keep6 neX1).trans a3, (keep6 neX1).trans a4, (keep6 neX1).trans a5⟩) (fun hHeld => ?_)
 clear hK K
 try simp only [Act.put]
 try simp only [List.setIfInBounds_toArray]
 try simp only [List.set_cons_succ]
 try simp only [List.set_cons_zero]
 refine wpAnyH_done (by kernel_rfl) ?_ _
 go_wp2_with fail
 obtain ⟨z0, z1, z2, z3, z4, z5, hvF, hqF⟩ := Ns.store hT2 (hv1.q hq2) hv2 hG2 (Nat.le_add_right _ _)
 unfold put6 at z0 z1 z2 z3 z4 z5 hvF hqF
 refine bodyPost_ret (v := .agg #[.bool t1, .slice B1 m1 d1, .slice C1 l1 g1, .bool t2, .slice B2 m2 d2, .slice C2 l2 g2]) (by simp [results, Tryz.results156, go_sem, z0, z1, z2, z3, z4, z5]) rfl ?_
 exact ⟨_, rfl, hvF, hqF⟩
end Go.Proofs.YtgokbhikgdhmpaaGreatDoor
namespace Go.Proofs.YtgokbhikgdhmpaaGreatDoor
open Go.RowKit
open Ma Me
inductive Vs where
 | any
 | eq (v : Value)
 | num (q : Rat)
 | span (p q : Rat)
 | pair (q : Rat) (c : Int)
 | three (p q r : Rat) (b : Bool)
def Vs.holds : Vs → Value → World → Prop
 | .any, _, _ => True
 | .eq u, v, _ => v = u
 | .num q, v, w => Nq w v q
 | .span p q, v, w => Ns w v p q
 | .pair q c, v, w => ∃ r, v = .tuple #[r, .int .i64 c] ∧ Nq w r q
 | .three p q r b, v, w => ∃ x y z, v = .tuple #[x, y, z, .bool b] ∧ Nq w x p ∧ Nq w y q ∧ Nq w z r
theorem Vs.mono {s : Vs} {v : Value} {w w' : World} (hq : Q w w') (h : s.holds v w) : s.holds v w' := by
 cases s with
 | any => trivial
 | eq u => exact h
 | num q => exact Nq.q h hq
 | span p q => exact Ns.q h hq
 | pair q c => obtain ⟨r, h1, h2⟩ := h; exact ⟨r, h1, h2.q hq⟩
 | three p q r b => obtain ⟨x, y, z, h1, h2, h3, h4⟩ := h; exact ⟨x, y, z, h1, h2.q hq, h3.q hq, h4.q hq⟩
def SL (l : List Vs) (j : Nat) (v : Value) (w : World) : Prop := (l.getD j .any).holds v w
def isB : Vs → Bool → Bool
 | .eq (.bool c), b => c == b
 | _, _ => false
theorem isB_spec {s : Vs} {b : Bool} (h : isB s b = true) : s = .eq (.bool b) := by
 unfold isB at h
 split at h
 ·simp at h; subst h; rfl
 ·cases h
section
variable {P : Program} {ops : Array Oper} {Q' : Exit → Act → World → Prop} {l : List Vs} {F : (Nat → Value) → Act} {a : Act} {w1 : World}
structure Ctx (ops : Array Oper) (a : Act) (F : (Nat → Value) → Act) : Prop where
 hsh : (Ja.shape ops && Region.noSelect ops && Ja.inBounds ops a.tmps.size) = true
 hF : ∀ vals, F vals = Ja.fillL vals ops.toList 0 a
theorem Ctx.go (c : Ctx ops a F) : ∀ vals, F vals = Ja.fillGo ops (fun _ => true) vals ops.size a := fun vals => (c.hF vals).trans (Ja.fillL_full vals a)
def guardIs (ops : Array Oper) (l : List Vs) (o : Oper) (yes : Bool) : Bool :=
 match o.guard with
 | none => yes
 | some (g, b) => isB (l.getD g .any) (b == yes) && decide (g < ops.size) && ((ops[g]?).bind (·.dst)).isSome
theorem wanted_is {i : Nat} {o : Oper} {yes : Bool} (c : Ctx ops a F) (ho : ops[i]? = some o) (hg : guardIs ops l o yes = true) {vals : Nat → Value} {w : World}
    (hd : ∀ e ∈ o.after, Region.binds .any e = true → SL l e.on (vals e.on) w) : Region.wanted o (yielded ops (F vals).tmps) = yes := by
  rw [c.go]
  unfold guardIs at hg
  split at hg
  · rename_i h; unfold Region.wanted; rw [h, hg]
  · rename_i g b h
    simp only [Bool.and_eq_true, decide_eq_true_eq] at hg
    obtain ⟨⟨h1, h2⟩, h3⟩ := hg
    have hsh := c.hsh
    simp only [Bool.and_eq_true] at hsh
    obtain ⟨d, hd3⟩ := Option.isSome_iff_exists.1 h3
    obtain ⟨e, he, hb, heq⟩ := (Ja.shape_spec hsh.1.1 ho).2.1 d (by simp [Oper.looksAt, h, hd3]) g hd3
    have hv := hd e he hb
    rw [heq] at hv
    unfold SL at hv
    rw [isB_spec h1] at hv
    have := Ja.wanted_of (a := a) c.hsh h h2 h3 hv
    rw [this]
    cases b <;> cases yes <;> rfl
theorem Each.yes {i : Nat} {o : Oper} (c : Ctx ops a F) (ho : ops[i]? = some o) (hg : guardIs ops l o true = true)
    (h : ∀ (vals : Nat → Value) (w : World), Q w1 w → (∀ j, (o.after.any fun e => Region.binds .any e && e.on == j) = true → SL l j (vals j) w) →
      ∀ K : Act → World → Prop, Hid (∀ v w' a', a' = (F vals).put o.dst v → SL l i v w' → Q w w' → K a' w') → o.wp P (F vals) w K (fun _ _ _ => False)) :
    Ja.Step P ops (Ja.JS Q (SL l) w1) F i o :=
  Ja.JS.step (fun _ _ _ => Q.trans) (fun _ _ _ _ hm hs => Vs.mono hm hs) fun vals w hM hd => by
    rw [if_pos (wanted_is c ho hg hd)]
    intro K hK
    refine h vals w hM (fun j hj => ?_) K (Lib.hid hK)
    obtain ⟨e, he, hb⟩ := Array.any_eq_true'.1 hj
    simp only [Bool.and_eq_true, beq_iff_eq] at hb
    obtain ⟨h1, rfl⟩ := hb
    exact hd e he h1
theorem Each.no {i : Nat} {o : Oper} (c : Ctx ops a F) (ho : ops[i]? = some o) (hg : guardIs ops l o false = true) (hi : SL l i undef w1 ∧ l.getD i .any = .any) :
    Ja.Step P ops (Ja.JS Q (SL l) w1) F i o :=
  Ja.JS.step (fun _ _ _ => Q.trans) (fun _ _ _ _ hm hs => Vs.mono hm hs) fun vals w hM hd => by
    rw [if_neg (by rw [wanted_is c ho hg hd]; decide)]
    unfold SL
    rw [hi.2]
    trivial
theorem Each.y {i : Nat} {o : Oper} {rest : List Oper} (c : Ctx ops a F)
    (h : ∀ (vals : Nat → Value) (w : World), Q w1 w → (∀ j, (o.after.any fun e => Region.binds .any e && e.on == j) = true → SL l j (vals j) w) →
      ∀ K : Act → World → Prop, Hid (∀ v w' a', a' = (F vals).put o.dst v → SL l i v w' → Q w w' → K a' w') → o.wp P (F vals) w K (fun _ _ _ => False))
    (hr : Ja.Steps P ops (Ja.JS Q (SL l) w1) F (i + 1) rest) (ho : ops[i]? = some o := by rfl) (hg : guardIs ops l o true = true := by kernel_rfl) : Ja.Steps P ops (Ja.JS Q (SL l) w1) F i (o :: rest) :=
  Ja.Steps.cons (Each.yes c ho hg h) hr
theorem Each.n {i : Nat} {o : Oper} {rest : List Oper} (c : Ctx ops a F) (hr : Ja.Steps P ops (Ja.JS Q (SL l) w1) F (i + 1) rest) (ho : ops[i]? = some o := by rfl) (hg : guardIs ops l o false = true := by kernel_rfl)
  (hi : SL l i undef w1 ∧ l.getD i .any = .any := by exact ⟨trivial, rfl⟩) : Ja.Steps P ops (Ja.JS Q (SL l) w1) F i (o :: rest) := Ja.Steps.cons (Each.no c ho hg hi) hr
theorem text_each {id : Nat} {w : World} (l : List Vs) (hsh : (Ja.shape ops && Region.noSelect ops && Ja.inBounds ops a.tmps.size) = true)
    (hF : ∀ vals, Ja.fillL vals ops.toList 0 a = F vals)
    (hstep : Ctx ops a F → Ja.Steps P ops (Ja.JS Q (SL l) w) F 0 ops.toList)
    (hend : ∀ vals w', Q w w' → (∀ j, j < ops.size → SL l j (vals j) w') → Q' .normal (F vals) w') : (Code.region id ops false).wp P Q' a w :=
  have c : Ctx ops a F := ⟨hsh, fun vals => (hF vals).symm⟩
  Ja.wp_text_each hsh c.go (Q.refl _) (hstep c) hend
end
end Go.Proofs.YtgokbhikgdhmpaaGreatDoor
