/- ValueIncludes (a part of the proof): results of numbers are in the results of their spans. No condition. -/
import Derived.Test.YtgpacgadpnpjjaaGreatDoorQn06
import Derived.Test.YtgpacgadpnpjjaaGreatDoorQn20
set_option maxHeartbeats 2000000
set_option maxRecDepth 100000
namespace Go.Proofs.YtgpacgadpnpjjaaGreatDoor
open Go.RowKit
open Ma Me
theorem Nq.top {w : World} {s : Bool} {t b : Value} {q : Rat} (h : Nq w (.agg #[.bool s, t, b]) q) : Nm w t q.num.natAbs := by
 obtain ⟨t2, b2, e, h1, h2⟩ := h;cases e;exact h1
theorem kN {a : Value} {x y : Bool} (h : x = y) : Ending.returned (.tuple #[a, .bool x]) = .returned (.tuple #[a, .bool y]) := by rw [h]
theorem aAu {U : Nat} (h : 412 < (dec U).length) : lT U = none := by
 unfold lT;have := aBi U h;rw [if_pos (by omega)]
theorem aCE {u : Rat} {U : Nat} (_ : 0 ≤ u) (hd : u.den = 1) (hU : u.num.natAbs = U) : dH u = lT U := by
 unfold dH;rw [if_pos hd, hU]
def aFH (o : Option (List UInt8)) (w : World) (e : Ending) (w' : World) : Prop := ∃ t : ByteArray, e = .returned (.tuple #[.string t, .bool o.isSome]) ∧ t.data.toList = o.getD [] ∧ Q w w'
theorem aCF (w : World) : Calls Tryz.prog 165 #[.string ⟨#[48]⟩, .int .i64 12] w fun e w' => ∃ z : ByteArray, e = .returned (.string z) ∧ z.data.toList = List.replicate 12 48 ∧ z.size = 12 ∧ Q w w' := by
 refine Calls.mono (Tryz.strings_Repeat_main ⟨#[48]⟩ 12 w (by decide) (by decide) (by decide) (by decide)) ?_;rintro e w' ⟨h1, h2⟩;exact ⟨_, h1, rfl, rfl, h2⟩
theorem xE (x : Value) (p : Rat) (w : World) (hT : Tb w) (hx : Nq w x p) (h0 : 0 ≤ p) (hB : 200 * sz p + 50000 ≤ LIM) : Calls Tryz.prog 101 #[x] w (aFH (dH (p * aS 12)) w) := by
 obtain ⟨s1, A1, n1, c1, A2, n2, c2, rfl, E1, Z1, O1, hxt, hxb⟩ := hx.form;obtain ⟨w0, hW, hG0, hX0⟩ := kM w s1 (.slice A1 n1 c1) (.slice A2 n2 c2);have hz1 := qD 12;have hz2 := qC p (aS 12);have hu0 : 0 ≤ p * aS 12 := Rat.mul_nonneg h0 (Rat.le_of_lt (yK _));have hB1 : 16 * (sz p + sz (aS 12)) + 100 ≤ LIM := by rw [aA] at *; omega
 generalize hu : p * aS 12 = u at *
 have HU := Lib.hid hu; clear hu;have hzu : 100 * dg W64 u.num.natAbs + 100 ≤ LIM := by have := gI u; rw [aA] at *; omega
 have HB := Lib.hid hB; clear hB hz1 h0;obtain ⟨x0, x1, x2⟩ := hX0.cells;go_enter Tryz.func101, Tryz.ntmps101
 go_wp2_with fail
 clear hW;have c0 : ∀ W, Q w0 W → W.cell? ⟨w.heap.size, 0, none⟩ = some (.bool s1) := fun W h => (hX0.q h).cells.1;have c1' : ∀ W, Q w0 W → W.cell? ⟨w.heap.size, 1, none⟩ = some (.slice A1 n1 c1) := fun W h => (hX0.q h).cells.2.1;have c2' : ∀ W, Q w0 W → W.cell? ⟨w.heap.size, 2, none⟩ = some (.slice A2 n2 c2) := fun W h => (hX0.q h).cells.2.2;clear x0 x1 x2
 go_region_held3 (fun W => Q w0 W) (first | with_reducible exact (Q.refl w0).drew | with_reducible exact hq1 | with_reducible exact hS2 | with_reducible exact ((Q.refl w0).alloc _).drew | with_reducible exact hq1.alloc _ | with_reducible exact hS2.alloc _ | with_reducible exact ((hS2.setCell hgE0 _).setCell hgE0 _).setCell hgE0 _) (first
  | (go_at_call 22; (with_reducible refine (rQ _ _ p (aS 12) w1 (hT.q hG1) (hx.q hG1) htv hB1).mono ?_); rintro e w2 ⟨uv, rfl, huv, hq2⟩; rw [HU.out] at huv; obtain ⟨s3, A3, n3, c3, A4, n4, c4, rfl, E3, Z3, O3, hut, hub⟩ := huv.form; have hG2 := hG1.trans hq2; have hS2 := hq1.trans hq2; first | (have hE2 := hE1.q hq2; have fz := hE2.frozen; obtain ⟨r0, r1, r2⟩ := hE2.cells) | skip)
  | (go_at_call 22; (with_reducible refine (rQ _ _ p (aS 12) _ (hT.q (hG1.alloc _)) (hx.q (hG1.alloc _)) (htv.q ((Q.refl _).alloc _)) hB1).mono ?_); rintro e w2 ⟨uv, rfl, huv, hq2d⟩; have hq2 : Q w1 w2 := ((Q.refl _).alloc _).trans hq2d; rw [HU.out] at huv; obtain ⟨s3, A3, n3, c3, A4, n4, c4, rfl, E3, Z3, O3, hut, hub⟩ := huv.form; have hG2 := hG1.trans hq2; have hS2 := hq1.trans hq2; have hE2 := (Nb.new w1 false (.slice none 0 0) (.slice none 0 0)).q hq2d; have hgE0 : w0.heap.size ≤ w1.heap.size := hq1.size; have hgE := Nat.le_trans hG0.size hgE0; have fz := hE2.frozen; obtain ⟨r0, r1, r2⟩ := hE2.cells)
  | (go_at_call 97; (with_reducible refine (nU 12 w0.drew (by decide)).mono ?_); rintro e w1 ⟨tv, rfl, htv, hq1d⟩; have hq1 : Q w0 w1 := (Q.refl w0).drew.trans hq1d; obtain ⟨s7, A7, n7, c7, A8, n8, c8, rfl, -⟩ := htv.form; have hG1 := hG0.trans hq1)
  | (go_at_call 97; (with_reducible refine (nU 12 (w0.alloc (.cells #[.bool false, .slice none 0 0, .slice none 0 0] 25)).drew (by decide)).mono ?_); rintro e w1 ⟨tv, rfl, htv, hq1d⟩; have hq1 : Q w0 w1 := ((Q.refl w0).alloc _).drew.trans hq1d; obtain ⟨s7, A7, n7, c7, A8, n8, c8, rfl, -⟩ := htv.form; have hG1 := hG0.trans hq1; have hE1 : Nb w1 w0.heap.size false (.slice none 0 0) (.slice none 0 0) := (Nb.new w0 false (.slice none 0 0) (.slice none 0 0)).q ((Q.refl _).drew.trans hq1d); have hgE0 : w0.heap.size ≤ w0.heap.size := Nat.le_refl _; have hgE := hG0.size))
 have hEE : Nb (w2.alloc (.cells #[.bool s3, .slice A3 n3 c3, .slice A4 n4 c4] 25)) w2.heap.size s3 (.slice A3 n3 c3) (.slice A4 n4 c4) := Nb.new w2 _ _ _;have hGE := hG2.alloc (.cells #[.bool s3, .slice A3 n3 c3, .slice A4 n4 c4] 25);have huE := huv.q ((Q.refl w2).alloc (.cells #[.bool s3, .slice A3 n3 c3, .slice A4 n4 c4] 25));generalize w2.alloc (.cells #[.bool s3, .slice A3 n3 c3, .slice A4 n4 c4] 25) = wE at hEE hGE huE ⊢;generalize w2.heap.size = gE at hEE ⊢
 rotate_left
 have hEE := hE2.put (s := s3) (t := .slice A3 n3 c3) (b := .slice A4 n4 c4);have hGE := nT (g := w1.heap.size) (s := s3) (t := .slice A3 n3 c3) (b := .slice A4 n4 c4) hG2 hgE;have huE := Nq.apart (s' := s3) (t' := .slice A3 n3 c3) (b' := .slice A4 n4 c4) huv hE2;unfold put3 at hEE hGE huE;generalize ((w2.setCell ⟨w1.heap.size, 0, none⟩ (.bool s3)).setCell ⟨w1.heap.size, 1, none⟩ (.slice A3 n3 c3)).setCell ⟨w1.heap.size, 2, none⟩ (.slice A4 n4 c4) = wE at hEE hGE huE ⊢;generalize w1.heap.size = gE at hEE ⊢
 rotate_left
 have hEE := hE2.put (s := s3) (t := .slice A3 n3 c3) (b := .slice A4 n4 c4);have hGE := nT (g := w0.heap.size) (s := s3) (t := .slice A3 n3 c3) (b := .slice A4 n4 c4) hG2 hgE;have huE := Nq.apart (s' := s3) (t' := .slice A3 n3 c3) (b' := .slice A4 n4 c4) huv hE2;unfold put3 at hEE hGE huE;generalize ((w2.setCell ⟨w0.heap.size, 0, none⟩ (.bool s3)).setCell ⟨w0.heap.size, 1, none⟩ (.slice A3 n3 c3)).setCell ⟨w0.heap.size, 2, none⟩ (.slice A4 n4 c4) = wE at hEE hGE huE ⊢;generalize w0.heap.size = gE at hEE ⊢
 rotate_left
 all_goals
  clear c0 c1' c2' hut hub huv;have hut := huE.top;obtain ⟨U, hU⟩ : ∃ U, u.num.natAbs = U := ⟨_, rfl⟩
  rw [hU] at hut hzu;have HUU := Lib.hid hU; clear hU;have hutE := hut;obtain ⟨e0, e1, e2⟩ := hEE.cells;go_wp2_with fail
  refine (iM _ u _ huE).mono ?_;rintro e w11 ⟨rfl, hq11⟩;have hG11 := hGE.trans hq11;have hE11 := hEE.q hq11;clear e0 e1 e2;obtain ⟨e0, e1, e2⟩ := hE11.cells;by_cases hd : u.den = 1
  ·rw [decide_eq_true hd];have hS := aCE hu0 hd HUU.out;have HS := Lib.hid hS; have HD := Lib.hid hd; clear hS hd;go_wp2_with fail
   refine (kR _ U _ (hutE.q hq11) hzu).mono ?_;rintro e w12 ⟨rfl, hq12⟩;have hG12 := hG11.trans hq12;have hE12 := hE11.q hq12;clear e0 e1 e2;obtain ⟨n, hn⟩ : ∃ n, (dec U).length = n := ⟨_, rfl⟩
   rw [hn];have HN := Lib.hid hn; clear hn;by_cases hl : 412 < n
   ·have hl2 : (412 : Int) < (n : Int) := (by omega);have hno : dH u = none := (by rw [HS.out]; exact aAu (by rw [HN.out]; exact hl));have HNO := Lib.hid hno; clear hno hl;go_wp2_with fail
    go_ret2
    exact ⟨⟨#[]⟩, kN (by rw [HNO.out]; rfl), by rw [HNO.out]; rfl, hG12⟩
   ·have hl2 : ¬ (412 : Int) < (n : Int) := (by omega);have hn412 : n ≤ 412 := (by omega);have hdU : dg W64 U ≤ 1000000000 := (by have := yP U; rw [HN.out] at this; omega);clear hl;go_wp2_with fail
    obtain ⟨e0, e1, e2⟩ := hE12.cells;refine wp_region_held_drew (S := fun W => W.cell? ⟨gE, 0, none⟩ = some (.bool s3) ∧ W.cell? ⟨gE, 1, none⟩ = some (.slice A3 n3 c3) ∧ W.cell? ⟨gE, 2, none⟩ = some (.slice A4 n4 c4)) (by kernel_rfl) (by exact ⟨e0, e1, e2⟩) (fun hHeld => ?_);refine wpAnyH_take (i := 1) (v := ?_) rfl (by kernel_rfl) (by kernel_rfl) (by kernel_rfl) (fun _ _ _ h => h) (Or.inl ⟨by rfl, ?_⟩) (by assumption) ?_
    rotate_left
    ·intro W hSw
     (try dsimp only at hSw)
     go_simp
     try (with_reducible rfl)
    try simp only [Act.put]
    try simp only [List.setIfInBounds_toArray]
    try simp only [List.set_cons_zero, List.set_cons_succ]
    refine wpAnyH_take (i := 2) (v := ?_) rfl (by kernel_rfl) (by kernel_rfl) (by kernel_rfl) (fun _ _ _ h => h) (Or.inl ⟨by rfl, ?_⟩) (by assumption) ?_
    rotate_left
    ·intro W hSw
     (try dsimp only at hSw)
     go_simp
     try (with_reducible rfl)
    try simp only [Act.put]
    try simp only [List.setIfInBounds_toArray]
    try simp only [List.set_cons_zero, List.set_cons_succ]
    refine wpAnyH_ready (rs := [0]) (by kernel_rfl) (by decide) (AllReadyH.cons rfl (fun K hK => ?_) AllReadyH.nil);go_simp
    (with_reducible refine (aCF _).mono ?_)
    rintro e w13 ⟨z, rfl, hz, hz12, hq13d⟩;have hq13 : Q w12 w13 := (Q.refl w12).drew.trans hq13d;have hG13 := hG12.trans hq13;have hE13 := hE12.q hq13;obtain ⟨e0, e1, e2⟩ := hE13.cells;have HZ := Lib.hid hz;clear hz;have HZ12 := Lib.hid hz12;have hz13 := Nat.le_of_eq hz12;clear hz12;go_wp2_with fail
    refine hK.out _ _ (by exact ⟨by assumption, by assumption, by assumption⟩) (fun hHeld => ?_);clear hK K;try simp only [Act.put]
    try simp only [List.setIfInBounds_toArray]
    try simp only [List.set_cons_zero, List.set_cons_succ]
    refine wpAnyH_ready (rs := [3]) (by kernel_rfl) (by decide) (AllReadyH.cons rfl (fun K hK => ?_) AllReadyH.nil);go_simp
    (with_reducible refine (oU _ U _ ((hutE.q (hq11.trans hq12)).q hq13) hdU).mono ?_)
    rintro e w14 ⟨tb, rfl, htb, hq14⟩;have hG14 := hG13.trans hq14;have hE14 := hE13.q hq14;obtain ⟨e0, e1, e2⟩ := hE14.cells;have htn : tb.size = n := (Lib.size_eq tb).trans ((congrArg List.length htb).trans HN.out);have htn2 : tb.size ≤ 412 := (by omega)
    have HTB := Lib.hid htb;have HTN := Lib.hid htn;clear htb htn;go_wp2_with fail
    refine hK.out _ _ (by exact ⟨by assumption, by assumption, by assumption⟩) (fun hHeld => ?_);clear hK K;try simp only [Act.put]
    try simp only [List.setIfInBounds_toArray]
    try simp only [List.set_cons_zero, List.set_cons_succ]
    refine wpAnyH_ready (rs := [4]) (by kernel_rfl) (by decide) (AllReadyH.cons rfl (fun K hK => ?_) AllReadyH.nil);go_simp
    rw [if_neg (by omega)];go_simp
    refine hK.out _ _ (by exact ⟨by assumption, by assumption, by assumption⟩) (fun hHeld => ?_);clear hK K;try simp only [Act.put]
    try simp only [List.setIfInBounds_toArray]
    try simp only [List.set_cons_zero, List.set_cons_succ]
    refine wpAnyH_take (i := 5) (v := ?_) rfl (by kernel_rfl) (by kernel_rfl) (by kernel_rfl) (fun _ _ _ h => h) (Or.inl ⟨by rfl, ?_⟩) (by assumption) ?_
    rotate_left
    ·intro W hSw
     (try dsimp only at hSw)
     go_simp
     try (with_reducible rfl)
    try simp only [Act.put]
    try simp only [List.setIfInBounds_toArray]
    try simp only [List.set_cons_zero, List.set_cons_succ]
    refine wpAnyH_done (by kernel_rfl) ?_ _;all_goals
     obtain ⟨sa1, sa2⟩ := aB9 U;rw [HN.out] at sa1 sa2;have hal : (z ++ tb).data.toList = List.replicate 12 48 ++ dec U := (by rw [dQ, HZ.out, HTB.out]);have has : (z ++ tb).size = 12 + n := (by rw [ByteArray.size_append, HZ12.out, HTN.out]);rw [← hal] at sa1 sa2;clear hal;generalize z ++ tb = al at *
     have hpt : (al.size : Int) - 12 = (n : Int) := (by omega);have q1 : (0 : Int) ≤ (n : Int) := (by omega);have q2 : (n : Int) ≤ (al.size : Int) := (by omega);have q3 : al.size ≤ 424 := (by omega);have hex1 : (al.extract 0 n).data.toList = al.data.toList.take n := (by rw [Lib.extract_data]; simp);have hex2 : (al.extract n al.size).data.toList = al.data.toList.drop n := Lib.extract_to_end _ _;have hxs : (al.extract n al.size).size ≤ 9223372036854775807 := (by rw [Lib.size_eq, hex2, List.length_drop, ← Lib.size_eq]; omega);obtain ⟨fa, hfa⟩ : ∃ fa : ByteArray, ⟨(Lib.trimLeftB (al.extract 0 n).data.toList 48).toArray⟩ = fa := ⟨_, rfl⟩
     obtain ⟨fb, hfb⟩ : ∃ fb : ByteArray, ⟨(Lib.trimRightB (al.extract n al.size).data.toList 48).toArray⟩ = fb := ⟨_, rfl⟩
     have la : fa.data.toList = if U / 1000000000000 = 0 then [] else dec (U / 1000000000000) := (by rw [← hfa, ← sa2, ← hex1]; rfl);have lb : fb.data.toList = uH (pd 12 (U % 1000000000000)) := (by rw [← hfb, ← sa1, ← hex2]; rfl);have hsh := aCa la lb;rw [← HS.out] at hsh;have hLC : ∀ W : World, Calls Tryz.prog 166 #[.string (al.extract 0 n), .string ⟨#[48]⟩] W fun e w' => e = .returned (.string fa) ∧ w' = W := fun W => (by have h := Tryz.strings_TrimLeft_one (al.extract 0 n) 48 (by decide) W; rw [hfa] at h; exact h);have hRC : ∀ W : World, Calls Tryz.prog 167 #[.string (al.extract n al.size), .string ⟨#[48]⟩] W fun e w' => e = .returned (.string fb) ∧ w' = W := fun W => (by have h := Tryz.strings_TrimRight_one (al.extract n al.size) 48 (by decide) W hxs; rw [hfb] at h; exact h);have HLC := Lib.hid hLC; have HRC := Lib.hid hRC; clear hLC hRC;have fl1 : fa.size ≤ 424 := (by rw [← hfa, Lib.size_eq, toList_mk]; exact Nat.le_trans (List.dropWhile_sublist _).length_le (by rw [hex1, List.length_take, ← Lib.size_eq]; omega));have fl2 : fb.size ≤ 424 := (by rw [← hfb, Lib.size_eq, toList_mk]; unfold Lib.trimRightB; rw [List.length_reverse]; exact Nat.le_trans (List.dropWhile_sublist _).length_le (by rw [List.length_reverse, hex2, List.length_drop, ← Lib.size_eq]; omega));have ta := ByteArray.toList_eq fa;have tbb := ByteArray.toList_eq fb;have sza := Lib.size_eq fa;have szb := Lib.size_eq fb;generalize hfl : fa.data.toList = f at *
     generalize hbl : fb.data.toList = bb at *
     have HFA := Lib.hid hfa; have HFB := Lib.hid hfb; have HSH := Lib.hid hsh; have HFL := Lib.hid hfl; have HBL := Lib.hid hbl; have TA := Lib.hid ta; have TB2 := Lib.hid tbb; have SZA := Lib.hid sza; have SZB := Lib.hid szb;clear hfa hfb hsh hfl hbl ta tbb sza szb sa1 sa2 la lb hex1 hex2 has;go_wp2_with fail
     go_quiet ((first | (go_at_call 166; exact Calls.quiet_of_same (HLC.out _)) | (go_at_call 167; exact Calls.quiet_of_same (HRC.out _))))
     by_cases hf0 : f = []
     ·have faa : fa.toList = [] := TA.out.trans hf0;have fab : (fa.toList == []) = true := (by rw [faa]; rfl);have fac : fa.toList.isEmpty = true := (by rw [faa]; rfl);have hsh2 : dH u = if 400 < ([48] : List UInt8).length + bb.length then none else some ([48] ++ if bb = [] then [] else 46 :: bb) := (by have h := HSH.out; rw [if_pos hf0] at h; exact h);have HS2 := Lib.hid hsh2; clear hsh2;have HF0 := Lib.hid hf0; clear hf0;by_cases hll : 400 < ([48] : List UInt8).length + bb.length
      ·have hl4 : (400 : Int) < (1 : Int) + (fb.size : Int) := (by rw [SZB.out]; simp at hll; omega);have hno : dH u = none := (by rw [HS2.out, if_pos hll]);have HNO := Lib.hid hno; clear hno hll;go_wp2_with fail
       go_ret2
       exact ⟨⟨#[]⟩, kN (by rw [HNO.out]; rfl), by rw [HNO.out]; rfl, hG14.drewN _⟩
      ·have hl4 : ¬ (400 : Int) < (1 : Int) + (fb.size : Int) := (by rw [SZB.out]; simp at hll; omega);by_cases hb0 : bb = []
       ·have fba : fb.toList = [] := TB2.out.trans hb0;have fbb : (fb.toList == []) = true := (by rw [fba]; rfl);have fbc : fb.toList.isEmpty = true := (by rw [fba]; rfl);have hsome : dH u = some ([48] ++ []) := (by rw [HS2.out, if_neg hll, if_pos hb0]);have HSO := Lib.hid hsome; clear hsome hll hb0;go_wp2_with fail
        go_ret2
        exact ⟨⟨#[48]⟩, kN (by rw [HSO.out]; rfl), by rw [HSO.out]; simp, hG14.drewN _⟩
       ·have fba : ¬ fb.toList = [] := fun h => hb0 (TB2.out.symm.trans h);have fbb : (fb.toList == []) = false := beq_eq_false_iff_ne.2 fba;have fbc : fb.toList.isEmpty = false := by cases hx : fb.toList with | nil => exact absurd hx fba | cons _ _ => rfl
        have hsome : dH u = some ([48] ++ 46 :: bb) := (by rw [HS2.out, if_neg hll, if_neg hb0]);have HSO := Lib.hid hsome; clear hsome hll hb0;go_wp2_with fail
        go_ret2
        exact ⟨⟨#[48]⟩ ++ ⟨#[46]⟩ ++ fb, kN (by rw [HSO.out]; rfl), by rw [HSO.out, dQ, dQ, HBL.out]; simp, hG14.drewN _⟩
     ·have faa : ¬ fa.toList = [] := fun h => hf0 (TA.out.symm.trans h);have fab : (fa.toList == []) = false := beq_eq_false_iff_ne.2 faa;have fac : fa.toList.isEmpty = false := by cases hx : fa.toList with | nil => exact absurd hx faa | cons _ _ => rfl
      have hsh2 : dH u = if 400 < (f : List UInt8).length + bb.length then none else some (f ++ if bb = [] then [] else 46 :: bb) := (by have h := HSH.out; rw [if_neg hf0] at h; exact h);have HS2 := Lib.hid hsh2; clear hsh2;have HF0 := Lib.hid hf0; clear hf0;by_cases hll : 400 < (f : List UInt8).length + bb.length
      ·have hl4 : (400 : Int) < (fa.size : Int) + (fb.size : Int) := (by rw [SZB.out, SZA.out]; omega);have hno : dH u = none := (by rw [HS2.out, if_pos hll]);have HNO := Lib.hid hno; clear hno hll;go_wp2_with fail
       go_ret2
       exact ⟨⟨#[]⟩, kN (by rw [HNO.out]; rfl), by rw [HNO.out]; rfl, hG14.drewN _⟩
      ·have hl4 : ¬ (400 : Int) < (fa.size : Int) + (fb.size : Int) := (by rw [SZB.out, SZA.out]; omega);by_cases hb0 : bb = []
       ·have fba : fb.toList = [] := TB2.out.trans hb0;have fbb : (fb.toList == []) = true := (by rw [fba]; rfl);have fbc : fb.toList.isEmpty = true := (by rw [fba]; rfl);have hsome : dH u = some (f ++ []) := (by rw [HS2.out, if_neg hll, if_pos hb0]);have HSO := Lib.hid hsome; clear hsome hll hb0;go_wp2_with fail
        go_ret2
        exact ⟨fa, kN (by rw [HSO.out]; rfl), by rw [HSO.out]; simp; exact HFL.out, hG14.drewN _⟩
       ·have fba : ¬ fb.toList = [] := fun h => hb0 (TB2.out.symm.trans h);have fbb : (fb.toList == []) = false := beq_eq_false_iff_ne.2 fba;have fbc : fb.toList.isEmpty = false := by cases hx : fb.toList with | nil => exact absurd hx fba | cons _ _ => rfl
        have hsome : dH u = some (f ++ 46 :: bb) := (by rw [HS2.out, if_neg hll, if_neg hb0]);have HSO := Lib.hid hsome; clear hsome hll hb0;go_wp2_with fail
        go_ret2
        exact ⟨fa ++ ⟨#[46]⟩ ++ fb, kN (by rw [HSO.out]; rfl), by rw [HSO.out, dQ, dQ, HBL.out, HFL.out]; simp, hG14.drewN _⟩
  ·rw [decide_eq_false hd];have hno : dH u = none := if_neg hd;have HNO := Lib.hid hno; clear hno hd;go_wp2_with fail
   go_ret2
   exact ⟨⟨#[]⟩, kN (by rw [HNO.out]; rfl), by rw [HNO.out]; rfl, hG11⟩
theorem aBu (i : Nat) : (letter i).length ≤ 1 := by
 unfold letter;rcases Nat.lt_or_ge i 10 with h | h
 ·rcases (by omega : i = 0 ∨ i = 1 ∨ i = 2 ∨ i = 3 ∨ i = 4 ∨ i = 5 ∨ i = 6 ∨ i = 7 ∨ i = 8 ∨ i = 9) with rfl | rfl | rfl | rfl | rfl | rfl | rfl | rfl | rfl | rfl <;> decide
 ·rw [List.getElem?_eq_none (by simpa using h)]; decide
theorem aCG {u : Rat} {o : Option (List UInt8)} (h : dH u = o) : ∀ d, o = some d → d.length ≤ 401 := by
 intro d hd;subst hd;unfold dH at h;split at h
 ·unfold lT at h;split at h
  ·cases h
  ·rename_i hl;have e := Option.some.inj h;rw [← e, List.length_append];split
   ·simp; omega
   ·rw [List.length_cons]; omega
 ·cases h
theorem aFq (x : Value) (p : Rat) (w : World) (hT : Tb w) (hPx : Px w) (hx : Nq w x p) (hB : 2000 * sz p + 500000 ≤ LIM) : Calls Tryz.prog 20 #[x] w fun e w' => ∃ t : ByteArray, e = .returned (.string t) ∧ t.data.toList = oM p ∧ Q w w' := by
 obtain ⟨s1, A1, n1, c1, A2, n2, c2, rfl, E1, Z1, O1, hxt, hxb⟩ := hx.form;obtain ⟨w0, hW, hG0, hX0⟩ := kM w s1 (.slice A1 n1 c1) (.slice A2 n2 c2);have HB := Lib.hid hB; clear hB;by_cases hp0 : p = 0
 ·have k0 : ((n1 : Int) == 0) = true := (by rw [Z1.out.2 hp0]; rfl);have HS : Hid (oM p = [48]) := if_pos hp0;clear hp0;obtain ⟨x0, x1, x2⟩ := hX0.cells;go_enter Tryz.func20, Tryz.ntmps20
  go_wp2_with fail
  go_ret
  exact ⟨⟨#[48]⟩, rfl, HS.out.symm, hG0⟩
 ·have k0 : ((n1 : Int) == 0) = false := beq_eq_false_iff_ne.2 (fun h => hp0 (Z1.out.1 (by omega)));obtain ⟨i, hi⟩ : ∃ i, iQ (gD p) 10 = i := ⟨_, rfl⟩
  have hi10 := aEf (gD p) 10 (by decide);rw [hi] at hi10;obtain ⟨pw10, hpw⟩ : ∃ z : Int, bC i = z := ⟨_, rfl⟩
  obtain ⟨pl, hpl⟩ : ∃ b, bR i = b := ⟨_, rfl⟩
  have hpl2 : pl.data.toList = letter i := (by rw [← hpl]; rfl);have hplz : pl.size ≤ 1 := (by rw [Lib.size_eq, hpl2]; exact aBu i);have hpb : -15 ≤ pw10 ∧ pw10 ≤ 15 := (by rw [← hpw]; unfold bC; omega);have hpb1 := hpb.1; have hpb2 := hpb.2; clear hpb;have hun : nO p = gD p * aS (-pw10) * aS 12 := (by unfold nO; rw [hi, ← hpw]; unfold bC; congr 2; congr 1; omega);have hsh : oM p = match dH (nO p) with | some d => gN p ++ d ++ letter i | none => bW p := by unfold oM; rw [if_neg hp0, hi]; cases dH (nO p) <;> rfl
  obtain ⟨o, ho⟩ : ∃ o, dH (nO p) = o := ⟨_, rfl⟩
  rw [ho] at hsh;rw [hun] at ho;have hol := aCG ho;have hzt := qD (-pw10);have hzm := qC (gD p) (aS (-pw10));have hza := aCq p;have hBm : 16 * (sz (gD p) + sz (aS (-pw10))) + 100 ≤ LIM := (by have := HB.out; rw [aA] at *; omega);have hBs : 200 * sz (gD p * aS (-pw10)) + 50000 ≤ LIM := (by have := HB.out; rw [aA] at *; omega);have hBp : 64 * sz (gD p) + 2000 ≤ LIM := (by have := HB.out; rw [aA] at *; omega);have hBt : sz p ≤ 1000000000 := (by have := HB.out; rw [aA] at *; omega);have hnn : 0 ≤ gD p * aS (-pw10) := Rat.mul_nonneg (by unfold gD; split <;> grind) (Rat.le_of_lt (yK _));have hm1 : (-pw10).natAbs ≤ 1000000 := (by omega);have HI := Lib.hid hi; clear hi;have HPW := Lib.hid hpw; clear hpw;have HPL := Lib.hid hpl; clear hpl;have HPL2 := Lib.hid hpl2; clear hpl2;have HSH := Lib.hid hsh; clear hsh;have HO := Lib.hid ho; clear ho;have HOL := Lib.hid hol; clear hol;have HP0 := Lib.hid hp0; clear hp0;have HNN := Lib.hid hnn; clear hnn;clear hun hzt hzm hza;obtain ⟨x0, x1, x2⟩ := hX0.cells;go_enter Tryz.func20, Tryz.ntmps20
  go_wp2_with fail
  clear hW k0;refine (aCr _ p _ (hx.q hG0)).mono ?_;rintro e w1 ⟨v1, rfl, hv1, hq1⟩;have hG1 := hG0.trans hq1;have hX1 := hX0.q hq1;clear x0 x1 x2;obtain ⟨s5, A5, n5, c5, A6, n6, c6, rfl, -⟩ := hv1.form;go_wp2_with fail
  refine (aBt _ (gD p) _ (hPx.q hG1) hv1 hBp).mono ?_;rintro e w2 ⟨rfl, hq2⟩;have hG2 := hG1.trans hq2;have hX2 := hX1.q hq2;obtain ⟨x0, x1, x2⟩ := hX2.cells;rw [HI.out, HPW.out, HPL.out];go_wp2_with fail
  refine (aCr _ p _ (hx.q hG2)).mono ?_;rintro e w3 ⟨v2, rfl, hv2, hq3⟩;have hG3 := hG2.trans hq3;have hX3 := hX2.q hq3;clear x0 x1 x2;obtain ⟨x0, x1, x2⟩ := hX3.cells;obtain ⟨s7, A7, n7, c7, A8, n8, c8, rfl, -⟩ := hv2.form;go_wp2_with fail
  refine (nU (-pw10) _ hm1).mono ?_;rintro e w4 ⟨v3, rfl, hv3, hq4⟩;have hG4 := hG3.trans hq4;have hX4 := hX3.q hq4;clear x0 x1 x2;obtain ⟨x0, x1, x2⟩ := hX4.cells;obtain ⟨s9, A9, n9, c9, A10, n10, c10, rfl, -⟩ := hv3.form;go_wp2_with fail
  refine (rQ _ _ (gD p) (aS (-pw10)) _ (hT.q hG4) (hv2.q hq4) hv3 hBm).mono ?_;rintro e w5 ⟨v4, rfl, hv4, hq5⟩;have hG5 := hG4.trans hq5;have hX5 := hX4.q hq5;clear x0 x1 x2;obtain ⟨x0, x1, x2⟩ := hX5.cells;obtain ⟨s11, A11, n11, c11, A12, n12, c12, rfl, -⟩ := hv4.form;go_wp2_with fail
  refine (xE _ (gD p * aS (-pw10)) _ (hT.q hG5) hv4 HNN.out hBs).mono ?_;rintro e w6 ⟨td, rfl, htd, hq6⟩;have hG6 := hG5.trans hq6;have hX6 := hX5.q hq6;clear x0 x1 x2;obtain ⟨x0, x1, x2⟩ := hX6.cells;rw [HO.out] at htd ⊢;cases o with
  | none =>
    have hR : oM p = bW p := HSH.out;have HR := Lib.hid hR; clear hR;go_wp2_with fail
    refine (mK _ p _ (hx.q hG6) hBt).mono ?_;rintro e w7 ⟨tt, rfl, htt, hq7⟩;have hG7 := hG6.trans hq7;have hX7 := hX6.q hq7;clear x0 x1 x2;have HTT := Lib.hid htt; clear htt;go_wp2_with fail
    go_ret
    exact ⟨tt, rfl, HTT.out.trans HR.out.symm, hG7⟩
  | some d =>
    have hR : oM p = gN p ++ d ++ letter i := HSH.out;have HR := Lib.hid hR; clear hR;have htd2 : td.data.toList = d := htd;have htz : td.size ≤ 401 := (by rw [Lib.size_eq, htd2]; exact HOL.out d rfl);have HTD := Lib.hid htd2; clear htd htd2;go_wp2_with fail
    refine (uT _ p _ (hx.q hG6)).mono ?_;rintro e w7 ⟨ts, rfl, hts, hq7⟩;have hG7 := hG6.trans hq7;have hX7 := hX6.q hq7;clear x0 x1 x2;have hsz1 := wU hts;have HTS := Lib.hid hts; clear hts;go_wp2_with fail
    go_ret
    exact ⟨_, rfl, by rw [dQ, dQ, HTS.out, HTD.out, HPL2.out, HR.out], hG7⟩
def Ns (w : World) (v : Value) (p q : Rat) : Prop := ∃ s1 A1 n1 c1 A2 n2 c2 s2 A3 n3 c3 A4 n4 c4, v = .agg #[.bool s1, .slice A1 n1 c1, .slice A2 n2 c2, .bool s2, .slice A3 n3 c3, .slice A4 n4 c4] ∧
 Nq w (.agg #[.bool s1, .slice A1 n1 c1, .slice A2 n2 c2]) p ∧ Nq w (.agg #[.bool s2, .slice A3 n3 c3, .slice A4 n4 c4]) q
theorem Ns.q {w w' : World} {v : Value} {p q : Rat} (h : Ns w v p q) (hq : Q w w') : Ns w' v p q := by
 obtain ⟨s1, A1, n1, c1, A2, n2, c2, s2, A3, n3, c3, A4, n4, c4, e, h1, h2⟩ := h;exact ⟨s1, A1, n1, c1, A2, n2, c2, s2, A3, n3, c3, A4, n4, c4, e, h1.q hq, h2.q hq⟩
def Sp (w : World) (g : Nat) (s1 : Bool) (t1 b1 : Value) (s2 : Bool) (t2 b2 : Value) : Prop := w.heap[g]? = some (.cells #[.bool s1, t1, b1, .bool s2, t2, b2] 59 (0, 0))
section
variable {w w' : World} {g : Nat} {s1 s2 : Bool} {t1 b1 t2 b2 : Value}
theorem Sp.cells (h : Sp w g s1 t1 b1 s2 t2 b2) : w.cell? ⟨g, 0, none⟩ = some (.bool s1) ∧ w.cell? ⟨g, 1, none⟩ = some t1 ∧ w.cell? ⟨g, 2, none⟩ = some b1 ∧ w.cell? ⟨g, 3, none⟩ = some (.bool s2) ∧ w.cell? ⟨g, 4, none⟩ = some t2 ∧ w.cell? ⟨g, 5, none⟩ = some b2 := by
 unfold Sp at h;refine ⟨?_, ?_, ?_, ?_, ?_, ?_⟩ <;> simp [World.cell?, h]
theorem Sp.frozen (h : Sp w g s1 t1 b1 s2 t2 b2) (i : Nat) : w.frozen? ⟨g, i, none⟩ = false := by
 unfold Sp at h;simp [World.frozen?, h]
theorem Sp.lt (h : Sp w g s1 t1 b1 s2 t2 b2) : g < w.heap.size := by
 rcases Nat.lt_or_ge g w.heap.size with hlt | hge
 ·exact hlt
 ·unfold Sp at h; rw [Array.getElem?_eq_none hge] at h; cases h
theorem Sp.q (h : Sp w g s1 t1 b1 s2 t2 b2) (hq : Q w w') : Sp w' g s1 t1 b1 s2 t2 b2 := (hq.heap h.lt).trans h
theorem Sp.new (w : World) (s1 : Bool) (t1 b1 : Value) (s2 : Bool) (t2 b2 : Value) : Sp (w.alloc (.cells #[.bool s1, t1, b1, .bool s2, t2, b2] 59)) w.heap.size s1 t1 b1 s2 t2 b2 := heap_alloc_new w _
end
def put6 (w : World) (g : Nat) (s1 : Bool) (t1 b1 : Value) (s2 : Bool) (t2 b2 : Value) : World :=
 (((((w.setCell ⟨g, 0, none⟩ (.bool s1)).setCell ⟨g, 1, none⟩ t1).setCell ⟨g, 2, none⟩ b1).setCell ⟨g, 3, none⟩ (.bool s2)).setCell ⟨g, 4, none⟩ t2).setCell ⟨g, 5, none⟩ b2
theorem Sp.put {w : World} {g : Nat} {s1 s2 s1' s2' : Bool} {t1 b1 t2 b2 t1' b1' t2' b2' : Value} (h : Sp w g s1' t1' b1' s2' t2' b2') : Sp (put6 w g s1 t1 b1 s2 t2 b2) g s1 t1 b1 s2 t2 b2 := by
 unfold Sp at h ⊢;unfold put6;simp [World.setCell, Array.getElem?_modify, h]
theorem aFr {a w : World} {g : Nat} {s1 s2 : Bool} {t1 b1 t2 b2 : Value} (h : Q a w) (hg : a.heap.size ≤ g) : Q a (put6 w g s1 t1 b1 s2 t2 b2) :=
 (((((h.setCell (p := ⟨g, 0, none⟩) hg _).setCell (p := ⟨g, 1, none⟩) hg _).setCell (p := ⟨g, 2, none⟩) hg _).setCell (p := ⟨g, 3, none⟩) hg _).setCell (p := ⟨g, 4, none⟩) hg _).setCell (p := ⟨g, 5, none⟩) hg _
theorem aCH {w : World} {g k : Nat} {s1 s2 : Bool} {t1 b1 t2 b2 : Value} (h : k ≠ g) : (put6 w g s1 t1 b1 s2 t2 b2).heap[k]? = w.heap[k]? := by
 unfold put6;rw [Below.heap_setCell _ _ _ _ h, Below.heap_setCell _ _ _ _ h, Below.heap_setCell _ _ _ _ h, Below.heap_setCell _ _ _ _ h, Below.heap_setCell _ _ _ _ h, Below.heap_setCell _ _ _ _ h]
theorem aCI {w : World} {g : Nat} {s1 s2 : Bool} {t1 b1 t2 b2 : Value} : (put6 w g s1 t1 b1 s2 t2 b2).heap.size = w.heap.size := by
 unfold put6; simp
theorem Sp.no_word {w : World} {g o : Nat} {s1 s2 : Bool} {A1 A2 A3 A4 : Option Addr} {n1 c1 n2 c2 n3 c3 n4 c4 : Nat} {d : Int} (hb : Sp w g s1 (.slice A1 n1 c1) (.slice A2 n2 c2) s2 (.slice A3 n3 c3) (.slice A4 n4 c4)) : w.cell? ⟨g, o, none⟩ ≠ some (.int .u64 d) := by
 unfold Sp at hb;intro h6;simp only [World.cell?, hb] at h6;rcases o with _ | _ | _ | _ | _ | _ | o <;> simp at h6
theorem Me.Nm.put6 {w : World} {x : Value} {N g : Nat} {s1 s2 s1' s2' : Bool} {A1 A2 A3 A4 : Option Addr} {n1 c1 n2 c2 n3 c3 n4 c4 : Nat} {t1' b1' t2' b2' : Value} (h : Nm w x N) (hb : Sp w g s1 (.slice A1 n1 c1) (.slice A2 n2 c2) s2 (.slice A3 n3 c3) (.slice A4 n4 c4)) : Nm (put6 w g s1' t1' b1' s2' t2' b2') x N := by
 obtain ⟨A, c, ws, rfl, h2, h3, h4, h5⟩ := h;refine ⟨A, c, ws, rfl, h2, fun hn => ?_, h4, h5⟩;obtain ⟨bl, o, rfl, hlt, hc⟩ := h3 hn;have hne : bl ≠ g := by
  rintro rfl;exact hb.no_word (hc 0 _ (List.getElem?_eq_getElem hn))
 refine ⟨bl, o, rfl, by rw [aCI]; exact hlt, fun j d hd => ?_⟩;have := hc j d hd;unfold World.cell? at this ⊢;rw [aCH hne];exact this
theorem Nq.apart6 {w : World} {v : Value} {q : Rat} {g : Nat} {s1 s2 s1' s2' : Bool} {A1 A2 A3 A4 : Option Addr} {n1 c1 n2 c2 n3 c3 n4 c4 : Nat} {t1' b1' t2' b2' : Value} (h : Nq w v q) (hb : Sp w g s1 (.slice A1 n1 c1) (.slice A2 n2 c2) s2 (.slice A3 n3 c3) (.slice A4 n4 c4)) : Nq (put6 w g s1' t1' b1' s2' t2' b2') v q := by
 obtain ⟨t, b, h1, h2, h3⟩ := h;exact ⟨t, b, h1, h2.put6 hb, h3.put6 hb⟩
theorem Ns.store {a w : World} {g : Nat} {s1 s2 s1' s2' : Bool} {A1 A2 A3 A4 B1 B2 B3 B4 : Option Addr} {n1 c1 n2 c2 n3 c3 n4 c4 m1 d1 m2 d2 m3 d3 m4 d4 : Nat} {p q : Rat} (hr : Sp w g s1' (.slice B1 m1 d1) (.slice B2 m2 d2) s2' (.slice B3 m3 d3) (.slice B4 m4 d4)) (hlo : Nq w (.agg #[.bool s1, .slice A1 n1 c1, .slice A2 n2 c2]) p) (hhi : Nq w (.agg #[.bool s2, .slice A3 n3 c3, .slice A4 n4 c4]) q) (hq : Q a w) (hg : a.heap.size ≤ g) : (put6 w g s1 (.slice A1 n1 c1) (.slice A2 n2 c2) s2 (.slice A3 n3 c3) (.slice A4 n4 c4)).cell? ⟨g, 0, none⟩ = some (.bool s1) ∧ (put6 w g s1 (.slice A1 n1 c1) (.slice A2 n2 c2) s2 (.slice A3 n3 c3) (.slice A4 n4 c4)).cell? ⟨g, 1, none⟩ = some (.slice A1 n1 c1) ∧ (put6 w g s1 (.slice A1 n1 c1) (.slice A2 n2 c2) s2 (.slice A3 n3 c3) (.slice A4 n4 c4)).cell? ⟨g, 2, none⟩ = some (.slice A2 n2 c2) ∧ (put6 w g s1 (.slice A1 n1 c1) (.slice A2 n2 c2) s2 (.slice A3 n3 c3) (.slice A4 n4 c4)).cell? ⟨g, 3, none⟩ = some (.bool s2) ∧ (put6 w g s1 (.slice A1 n1 c1) (.slice A2 n2 c2) s2 (.slice A3 n3 c3) (.slice A4 n4 c4)).cell? ⟨g, 4, none⟩ = some (.slice A3 n3 c3) ∧ (put6 w g s1 (.slice A1 n1 c1) (.slice A2 n2 c2) s2 (.slice A3 n3 c3) (.slice A4 n4 c4)).cell? ⟨g, 5, none⟩ = some (.slice A4 n4 c4) ∧
  Ns (put6 w g s1 (.slice A1 n1 c1) (.slice A2 n2 c2) s2 (.slice A3 n3 c3) (.slice A4 n4 c4)) (.agg #[.bool s1, .slice A1 n1 c1, .slice A2 n2 c2, .bool s2, .slice A3 n3 c3, .slice A4 n4 c4]) p q ∧ Q a (put6 w g s1 (.slice A1 n1 c1) (.slice A2 n2 c2) s2 (.slice A3 n3 c3) (.slice A4 n4 c4)) := by
 obtain ⟨r0, r1, r2, r3, r4, r5⟩ := (hr.put (s1 := s1) (t1 := .slice A1 n1 c1) (b1 := .slice A2 n2 c2) (s2 := s2) (t2 := .slice A3 n3 c3) (b2 := .slice A4 n4 c4)).cells;exact ⟨r0, r1, r2, r3, r4, r5, ⟨_, _, _, _, _, _, _, _, _, _, _, _, _, _, rfl, hlo.apart6 hr, hhi.apart6 hr⟩, aFr hq hg⟩
theorem aFs (w : World) (s1 : Bool) (t1 b1 : Value) (s2 : Bool) (t2 b2 : Value) : ∃ W, (w.alloc (.cells #[.bool s1, t1, b1, .bool s2, t2, b2] 59)).alloc (.cells #[.bool false, .slice none 0 0, .slice none 0 0, .bool false, .slice none 0 0, .slice none 0 0] 59) = W ∧
  Q w W ∧ Sp W w.heap.size s1 t1 b1 s2 t2 b2 ∧ Sp W (w.heap.size + 1) false (.slice none 0 0) (.slice none 0 0) false (.slice none 0 0) (.slice none 0 0) := by
 have h1 := Sp.new w s1 t1 b1 s2 t2 b2;have h2 := Sp.new (w.alloc (.cells #[.bool s1, t1, b1, .bool s2, t2, b2] 59)) false (.slice none 0 0) (.slice none 0 0) false (.slice none 0 0) (.slice none 0 0);rw [World.size_alloc] at h2;exact ⟨_, rfl, ((Q.refl _).alloc _).alloc _, h1.q ((Q.refl _).alloc _), h2⟩
theorem aCJ (a : Value) (p q : Rat) (w : World) (ha : Ns w a p q) (hB : 64 * (sz p + sz q) + 400 ≤ LIM) : Calls Tryz.prog 115 #[a] w fun e w' => ∃ r, e = .returned r ∧ Ns w' r (aK p q) (aG p q) ∧ Q w w' := by
 obtain ⟨s11, A11, n11, c11, A12, n12, c12, s12, A13, n13, c13, A14, n14, c14, rfl, lo1, hi1⟩ := ha;obtain ⟨w0, hW, hG0, hA0, hT0⟩ := aFs w s11 (.slice A11 n11 c11) (.slice A12 n12 c12) s12 (.slice A13 n13 c13) (.slice A14 n14 c14);have HB := Lib.hid hB; clear hB;obtain ⟨c, hc⟩ : ∃ c, rc p q = c := ⟨_, rfl⟩
 have hle := aFA p q;rw [hc] at hle;have HC := Lib.hid hc; have HLE := Lib.hid hle; clear hc hle;by_cases h : 0 < c
 ·have HH := Lib.hid h;have hnle : ¬ p ≤ q := fun h1 => (by have := HLE.out.2 h1; have := HH.out; omega);have hge : q ≤ p := (by grind);have hm1 : aK p q = q := if_neg hnle;have hm2 : aG p q = p := if_pos hge;rw [hm1, hm2];clear hm1 hm2 hnle hge;obtain ⟨a0, a1, a2, a3, a4, a5⟩ := hA0.cells;go_enter Tryz.func115, Tryz.ntmps115
  go_wp2_with fail
  clear hW;refine (uS _ _ p q _ (lo1.q hG0) (hi1.q hG0) HB.out).mono ?_;rintro e w1 ⟨rfl, hq1⟩;have hG1 := hG0.trans hq1;have hA1 := hA0.q hq1;have hT1 := hT0.q hq1;clear a0 a1 a2 a3 a4 a5;obtain ⟨a0, a1, a2, a3, a4, a5⟩ := hA1.cells;have fz := hT1.frozen;obtain ⟨r0, r1, r2, r3, r4, r5⟩ := hT1.cells;rw [HC.out];go_wp2_with fail
  obtain ⟨z0, z1, z2, z3, z4, z5, hvF, hqF⟩ := Ns.store hT1 (hi1.q hG1) (lo1.q hG1) hG1 (Nat.le_add_right _ _);unfold put6 at z0 z1 z2 z3 z4 z5 hvF hqF;refine bodyPost_ret (v := .agg #[.bool s12, .slice A13 n13 c13, .slice A14 n14 c14, .bool s11, .slice A11 n11 c11, .slice A12 n12 c12]) (by simp [results, Tryz.results115, go_sem, z0, z1, z2, z3, z4, z5]) rfl ?_;exact ⟨_, rfl, hvF, hqF⟩
 ·have HH := Lib.hid h;have hm1 : aK p q = p := if_pos (HLE.out.1 (by have := HH.out; omega));have hm2 : aG p q = q := jD (HLE.out.1 (by have := HH.out; omega));rw [hm1, hm2];clear hm1 hm2;obtain ⟨a0, a1, a2, a3, a4, a5⟩ := hA0.cells;go_enter Tryz.func115, Tryz.ntmps115
  go_wp2_with fail
  clear hW;refine (uS _ _ p q _ (lo1.q hG0) (hi1.q hG0) HB.out).mono ?_;rintro e w1 ⟨rfl, hq1⟩;have hG1 := hG0.trans hq1;have hA1 := hA0.q hq1;have hT1 := hT0.q hq1;clear a0 a1 a2 a3 a4 a5;obtain ⟨a0, a1, a2, a3, a4, a5⟩ := hA1.cells;have fz := hT1.frozen;obtain ⟨r0, r1, r2, r3, r4, r5⟩ := hT1.cells;rw [HC.out];go_wp2_with fail
  obtain ⟨z0, z1, z2, z3, z4, z5, hvF, hqF⟩ := Ns.store hT1 (lo1.q hG1) (hi1.q hG1) hG1 (Nat.le_add_right _ _);unfold put6 at z0 z1 z2 z3 z4 z5 hvF hqF;refine bodyPost_ret (v := .agg #[.bool s11, .slice A11 n11 c11, .slice A12 n12 c12, .bool s12, .slice A13 n13 c13, .slice A14 n14 c14]) (by simp [results, Tryz.results115, go_sem, z0, z1, z2, z3, z4, z5]) rfl ?_;exact ⟨_, rfl, hvF, hqF⟩
end Go.Proofs.YtgpacgadpnpjjaaGreatDoor
namespace Go.Proofs.YtgpacgadpnpjjaaGreatDoor.K
open Go.RowKit
open Ma Me
theorem aBv {w w' : World} {v : Value} {q : Rat} {g : Nat} (h : Nq w v q) (ha : Ap w w' g) : Nq w' v q := by
 obtain ⟨t, b, e, h1, h2⟩ := h;exact ⟨t, b, e, ha.nm h1, ha.nm h2⟩
def aN (q : Rat) : Pr := ⟨fun v w => Nq w v q, fun h hq => Nq.q h hq, true, fun _ h ha => aBv h ha⟩
def gH (p q : Rat) : Pr := ⟨fun v w => Ns w v p q, fun h hq => Ns.q h hq, true,
 fun _ ⟨s1, A1, n1, c1, A2, n2, c2, s2, A3, n3, c3, A4, n4, c4, e, h1, h2⟩ ha => ⟨s1, A1, n1, c1, A2, n2, c2, s2, A3, n3, c3, A4, n4, c4, e, aBv h1 ha, aBv h2 ha⟩⟩
theorem aFt (w : World) : Nq w (.agg #[.bool false, .slice none 0 0, .slice none 0 0]) 0 := ⟨_, _, rfl, Nm.zero Option.none 0, Nm.zero Option.none 0⟩
section
variable {w : World} {s1 s2 : Bool} {A1 A2 A3 A4 : Option Addr} {n1 c1 n2 c2 n3 c3 n4 c4 : Nat} {p q : Rat}
theorem lD (h : Ns w (.agg #[.bool s1, .slice A1 n1 c1, .slice A2 n2 c2, .bool s2, .slice A3 n3 c3, .slice A4 n4 c4]) p q) : Nq w (.agg #[.bool s1, .slice A1 n1 c1, .slice A2 n2 c2]) p ∧ Nq w (.agg #[.bool s2, .slice A3 n3 c3, .slice A4 n4 c4]) q := by
 obtain ⟨s1', A1', n1', c1', A2', n2', c2', s2', A3', n3', c3', A4', n4', c4', e, h⟩ := h;simp only [Value.agg.injEq, Array.mk.injEq, List.cons.injEq, Value.bool.injEq, Value.slice.injEq, and_true] at e;obtain ⟨rfl, ⟨rfl, rfl, rfl⟩, ⟨rfl, rfl, rfl⟩, rfl, ⟨rfl, rfl, rfl⟩, rfl, rfl, rfl⟩ := e;exact h
end
end Go.Proofs.YtgpacgadpnpjjaaGreatDoor.K
namespace Go.Proofs.YtgpacgadpnpjjaaGreatDoor.K
open Go.RowKit
open Ma Me
theorem vV {q : Rat} : ∀ v W, (Vs.gen (aN q)).holds v W → ∃ v0 v1 v2, v = .agg #[v0, v1, v2] ∧ Sh [.b, .s, .s] [v0, v1, v2] := fun v W h => by
 obtain ⟨s, A1, n1, c1, A2, n2, c2, e, -⟩ := Nq.form (show Nq W v q from h);exact ⟨_, _, _, e, ⟨_, rfl⟩, ⟨_, _, _, rfl⟩, ⟨_, _, _, rfl⟩, trivial⟩
theorem st6 {ρ : Operand → Value} {o : Oper} {w : World} {g : Nat} {t : TypeId} {v0 v1 v2 v3 v4 v5 u0 u1 u2 u3 u4 u5 : Value} {T : TypeId} {x y : Operand} (hb : Bx w g t [u0, u1, u2, u3, u4, u5]) (o0 : v0.oneCell' = true) (o1 : v1.oneCell' = true) (o2 : v2.oneCell' = true) (o3 : v3.oneCell' = true) (o4 : v4.oneCell' = true) (o5 : v5.oneCell' = true) (ho : o.op = .store T x y) (hx : ρ x = .pointer (some ⟨g, 0, none⟩)) (hy : ρ y = .agg #[v0, v1, v2, v3, v4, v5]) (hS : ∀ w, Sem.run Tryz.prog (sizeOf T) w = .ok 6 w) :
  (execOp ρ o).run Tryz.prog w = .ok .skip (gJ w g 0 [v0, v1, v2, v3, v4, v5]) := by
 have fz := hb.frozen;have c0 := hb.cell 0 rfl;have c1 := hb.cell 1 rfl;have c2 := hb.cell 2 rfl;have c3 := hb.cell 3 rfl;have c4 := hb.cell 4 rfl;have c5 := hb.cell 5 rfl;unfold execOp;rw [ho];simp [hx, hy, go_sem, hS, storeCells, Addr.add, fz, c0, c1, c2, c3, c4, c5, gJ, o0, o1, o2, o3, o4, o5, run_store]
section
variable {ops : Array Oper} {l : List Vs} {cs : List Ce} {ks : List (Value × Vs)} {F : (Nat → Value) → Act} {a : Act} {w0 : World} {i : Nat} {o : Oper} {rest : List Oper}
theorem JC.s6 {n : Nat} {x : Ce} {T : TypeId} {p y : Operand} (hx : cs[n]? = some x) (form : ∀ v W, (l.getD x.src .any).holds v W → ∃ v0 v1 v2 v3 v4 v5, v = .agg #[v0, v1, v2, v3, v4, v5] ∧ Sh x.ck [v0, v1, v2, v3, v4, v5]) (c : Ctx ops a F) (hr : Ja.Steps Tryz.prog ops (JC w0 ops l cs ks) F (i + 1) rest)
  (ho : ops[i]? = some o := by rfl) (hop : o.op = .store T p y := by rfl) (hp : ∀ vals, (F vals).eval p = x.ptr vals := by intro vals; kernel_rfl) (hy : ∀ vals, (F vals).eval y = vals x.src := by intro vals; kernel_rfl)
  (hty : (x.t != 2) = true := by kernel_rfl) (hst : x.st = i := by rfl) (hf : ((cs.eraseIdx n).all fun c => c.al != some i && c.st != i) = true := by kernel_rfl) (hl : l.getD i .any = .any := by rfl) (hok : (l.all Vs.ok && ks.all fun p => p.2.ok) = true := by kernel_rfl)
  (hck : bM ops cs = true := by kernel_rfl) (hg : bF ops l o true = true := by kernel_rfl) (hS : ∀ w, Sem.run Tryz.prog (sizeOf T) w = .ok 6 w := by intro _; kernel_rfl) :
  Ja.Steps Tryz.prog ops (JC w0 ops l cs ks) F i (o :: rest) :=
 Ja.Steps.cons (JC.store c hck ho hg hx (bne_iff_ne.1 hty) hst hf hl hok (fun L vals w g old hJ hpt ho' hs K hK => by
  obtain ⟨v0, v1, v2, v3, v4, v5, e, hsh⟩ := form _ _ hs;obtain ⟨row, e2, hsr, hb⟩ := ho';have hlen : row.length = 6 := (by rw [hsr.length, ← hsh.length]; rfl);obtain ⟨u0, u1, u2, u3, u4, u5, rfl⟩ : ∃ u0 u1 u2 u3 u4 u5, row = [u0, u1, u2, u3, u4, u5] := by
   match row, hlen with
   | [u0, u1, u2, u3, u4, u5], _ => exact ⟨_, _, _, _, _, _, rfl⟩
  have h1 := st6 hb (Sh.one hsh v0 (by simp)) (Sh.one hsh v1 (by simp)) (Sh.one hsh v2 (by simp)) (Sh.one hsh v3 (by simp)) (Sh.one hsh v4 (by simp)) (Sh.one hsh v5 (by simp)) hop ((hp vals).trans hpt) ((hy vals).trans e) hS;unfold Oper.wp;rw [h1, Oper.upon_skip];exact hK.out undef _ _ rfl ⟨_, e, hsh, rfl⟩)) hr
theorem JC.l6 {g : Nat} {t T : TypeId} {row : List Value} {v0 v1 v2 v3 v4 v5 : Value} {x : Operand} (hb : Bx w0 g t row) (hv : ∀ W, Q w0 W → (l.getD i .any).holds (.agg #[v0, v1, v2, v3, v4, v5]) W) (c : Ctx ops a F) (hr : Ja.Steps Tryz.prog ops (JC w0 ops l cs ks) F (i + 1) rest)
  (ho : ops[i]? = some o := by rfl) (hop : o.op = .load T x := by rfl) (hx : ∀ vals, (F (iX l o vals)).eval x = .pointer (some ⟨g, 0, none⟩) := by intro vals; kernel_rfl)
  (hc0 : row[0]? = some v0 := by rfl) (hc1 : row[1]? = some v1 := by rfl) (hc2 : row[2]? = some v2 := by rfl) (hc3 : row[3]? = some v3 := by rfl) (hc4 : row[4]? = some v4 := by rfl) (hc5 : row[5]? = some v5 := by rfl)
  (hck : bM ops cs = true := by kernel_rfl) (hg : bF ops l o true = true := by kernel_rfl) (hf : (cs.all fun c => c.al != some i && c.st != i) = true := by kernel_rfl)
  (hT : ∀ w, Sem.run Tryz.prog (isAgg T) w = .ok true w := by intro _; kernel_rfl) (hS : ∀ w, Sem.run Tryz.prog (sizeOf T) w = .ok 6 w := by intro _; kernel_rfl) :
  Ja.Steps Tryz.prog ops (JC w0 ops l cs ks) F i (o :: rest) :=
 JC.lo _ hb hv (fun vals _ h => ld6 (h.cell 0 hc0) (h.cell 1 hc1) (h.cell 2 hc2) (h.cell 3 hc3) (h.cell 4 hc4) (h.cell 5 hc5) hop (hx vals) hT hS) c hr hck ho hg hf
theorem JC.r6 {g : Nat} {t T : TypeId} {ck : List Ck} {row : List Value} {v0 v1 v2 v3 v4 v5 : Value} {x : Operand} (hst : ∀ L vals W, L i = false → JC w0 ops l cs ks L vals W → NbV W g t ck (.agg row.toArray)) (hv : ∀ L vals W, JC w0 ops l cs ks L vals W → (l.getD i .any).holds (.agg #[v0, v1, v2, v3, v4, v5]) W) (c : Ctx ops a F) (hr : Ja.Steps Tryz.prog ops (JC w0 ops l cs ks) F (i + 1) rest)
  (ho : ops[i]? = some o := by rfl) (hop : o.op = .load T x := by rfl) (hx : ∀ vals, (F (iX l o vals)).eval x = .pointer (some ⟨g, 0, none⟩) := by intro vals; kernel_rfl)
  (hc0 : row[0]? = some v0 := by rfl) (hc1 : row[1]? = some v1 := by rfl) (hc2 : row[2]? = some v2 := by rfl) (hc3 : row[3]? = some v3 := by rfl) (hc4 : row[4]? = some v4 := by rfl) (hc5 : row[5]? = some v5 := by rfl)
  (hck : bM ops cs = true := by kernel_rfl) (hg : bF ops l o true = true := by kernel_rfl) (hf : (cs.all fun c => c.al != some i && c.st != i) = true := by kernel_rfl)
  (hT : ∀ w, Sem.run Tryz.prog (isAgg T) w = .ok true w := by intro _; kernel_rfl) (hS : ∀ w, Sem.run Tryz.prog (sizeOf T) w = .ok 6 w := by intro _; kernel_rfl) :
  Ja.Steps Tryz.prog ops (JC w0 ops l cs ks) F i (o :: rest) :=
 JC.o c (fun L vals w hL hJ hd K hK => by
  have hb := NbV.out (hst L vals w hL hJ);have h := ld6 (hb.cell 0 hc0) (hb.cell 1 hc1) (hb.cell 2 hc2) (hb.cell 3 hc3) (hb.cell 4 hc4) (hb.cell 5 hc5) hop (hx vals) hT hS;rw [iK hd] at h;unfold Oper.wp;rw [h, Oper.upon_value];exact hK.out _ w _ rfl (hv L vals w hJ) (Q.refl _)) hr hck ho hg hf
end
theorem oW {p q : Rat} : ∀ v W, (Vs.gen (gH p q)).holds v W → ∃ v0 v1 v2 v3 v4 v5, v = .agg #[v0, v1, v2, v3, v4, v5] ∧ Sh [.b, .s, .s, .b, .s, .s] [v0, v1, v2, v3, v4, v5] := fun v W h => by
 obtain ⟨s1, A1, n1, c1, A2, n2, c2, s2, A3, n3, c3, A4, n4, c4, e, -⟩ := (show Ns W v p q from h)
 exact ⟨_, _, _, _, _, _, e, ⟨_, rfl⟩, ⟨_, _, _, rfl⟩, ⟨_, _, _, rfl⟩, ⟨_, rfl⟩, ⟨_, _, _, rfl⟩, ⟨_, _, _, rfl⟩, trivial⟩
theorem fRs {p q : Rat} : ∀ v W, (Vs.gen (pRs p q)).holds v W → ∃ v0 v1 v2 v3 v4 v5, v = .agg #[v0, v1, v2, v3, v4, v5] ∧ Sh [.i, .s, .s, .i, .s, .s] [v0, v1, v2, v3, v4, v5] := fun v W h => by
 obtain ⟨s1, A1, n1, c1, A2, n2, c2, s2, A3, n3, c3, A4, n4, c4, e, -⟩ := (show Rs W v p q from h)
 exact ⟨_, _, _, _, _, _, e, ⟨_, rfl⟩, ⟨_, _, _, rfl⟩, ⟨_, _, _, rfl⟩, ⟨_, rfl⟩, ⟨_, _, _, rfl⟩, ⟨_, _, _, rfl⟩, trivial⟩
theorem rR {w : World} {g : Nat} {t : TypeId} {v : Value} {q : Rat} (h : NbV w g t [.b, .s, .s] v) (hq : Nq w v q) : ∃ s A1 k1 c1 A2 k2 c2, Bx w g t [.bool s, .slice A1 k1 c1, .slice A2 k2 c2] ∧ Nq w (.agg #[.bool s, .slice A1 k1 c1, .slice A2 k2 c2]) q := by
 obtain ⟨s, A1, n1, c1, A2, n2, c2, rfl, -⟩ := Nq.form hq;exact ⟨_, _, _, _, _, _, _, NbV.out (row := [.bool s, .slice A1 n1 c1, .slice A2 n2 c2]) h, hq⟩
theorem mM {w : World} {g : Nat} {t : TypeId} {v : Value} {p q : Rat} (h : NbV w g t [.b, .s, .s, .b, .s, .s] v) (hq : Ns w v p q) : ∃ s A1 k1 c1 A2 k2 c2 s' A3 k3 c3 A4 k4 c4,
  Bx w g t [.bool s, .slice A1 k1 c1, .slice A2 k2 c2, .bool s', .slice A3 k3 c3, .slice A4 k4 c4] ∧ Ns w (.agg #[.bool s, .slice A1 k1 c1, .slice A2 k2 c2, .bool s', .slice A3 k3 c3, .slice A4 k4 c4]) p q := by
 have hq2 := hq;obtain ⟨s1, A1, n1, c1, A2, n2, c2, s2, A3, n3, c3, A4, n4, c4, rfl, -⟩ := hq2;exact ⟨_, _, _, _, _, _, _, _, _, _, _, _, _, _, NbV.out (row := [.bool s1, .slice A1 n1 c1, .slice A2 n2 c2, .bool s2, .slice A3 n3 c3, .slice A4 n4 c4]) h, hq⟩
theorem nH {w0 w : World} {g : Nat} {t : TypeId} {s : Bool} {A1 A2 : Option Addr} {k1 c1 k2 c2 : Nat} (h : Bx w g t [.bool s, .slice A1 k1 c1, .slice A2 k2 c2]) (hg : w0.heap.size ≤ g) {P : Prop} : P → w0.heap.size ≤ g ∧ NbV w g t [.b, .s, .s] (.agg #[.bool s, .slice A1 k1 c1, .slice A2 k2 c2]) :=
 fun _ => ⟨hg, _, rfl, ⟨⟨_, rfl⟩, ⟨_, _, _, rfl⟩, ⟨_, _, _, rfl⟩, trivial⟩, h⟩
theorem kS {w0 w : World} {g : Nat} {t : TypeId} {s s' : Bool} {A1 A2 A3 A4 : Option Addr} {k1 c1 k2 c2 k3 c3 k4 c4 : Nat} (h : Bx w g t [.bool s, .slice A1 k1 c1, .slice A2 k2 c2, .bool s', .slice A3 k3 c3, .slice A4 k4 c4]) (hg : w0.heap.size ≤ g) {P : Prop} : P → w0.heap.size ≤ g ∧ NbV w g t [.b, .s, .s, .b, .s, .s] (.agg #[.bool s, .slice A1 k1 c1, .slice A2 k2 c2, .bool s', .slice A3 k3 c3, .slice A4 k4 c4]) :=
 fun _ => ⟨hg, _, rfl, ⟨⟨_, rfl⟩, ⟨_, _, _, rfl⟩, ⟨_, _, _, rfl⟩, ⟨_, rfl⟩, ⟨_, _, _, rfl⟩, ⟨_, _, _, rfl⟩, trivial⟩, h⟩
theorem zT {fn : Func} {R : Ending → World → Prop} {a : Act} {w : World} {g : Nat} {t T : TypeId} {c : Nat} {v0 v1 v2 v3 v4 v5 : Value} (hb : Bx w g t [v0, v1, v2, v3, v4, v5]) (hR : R (.returned (.agg #[v0, v1, v2, v3, v4, v5])) w)
  (hres : fn.results = #[.cell c T] := by rfl) (hslot : a.tmps.getD c undef = .pointer (some ⟨g, 0, none⟩) := by kernel_rfl) (hT : ∀ w, Sem.run Tryz.prog (isAgg T) w = .ok true w := by intro _; kernel_rfl) (hS : ∀ w, Sem.run Tryz.prog (sizeOf T) w = .ok 6 w := by intro _; kernel_rfl)
  (hd : a.defers = [] := by rfl) : bodyPost Tryz.prog fn R .ret a w := by
 have h0 := hb.cell 0 rfl;have h1 := hb.cell 1 rfl;have h2 := hb.cell 2 rfl;have h3 := hb.cell 3 rfl;have h4 := hb.cell 4 rfl;have h5 := hb.cell 5 rfl;refine bodyPost_ret (v := .agg #[v0, v1, v2, v3, v4, v5]) ?_ hd hR;unfold results;rw [hres];rw [Array.getD_eq_getD_getElem?] at hslot;simp [go_sem, hslot, hT, hS, loadVar, loadCells, loadCellsFrom, Addr.add, h0, h1, h2, h3, h4, h5]
end Go.Proofs.YtgpacgadpnpjjaaGreatDoor.K
namespace Go.Proofs.YtgpacgadpnpjjaaGreatDoor.K
open Go.RowKit
open Ma Me
section
variable {ops : Array Oper} {l : List Vs} {cs : List Ce} {ks : List (Value × Vs)} {F : (Nat → Value) → Act} {a : Act} {w0 : World} {i : Nat} {o : Oper} {rest : List Oper}
theorem JC.was {L : Nat → Bool} {vals : Nat → Value} {W : World} (n : Nat) {g : Nat} {t : TypeId} {ck : List Ck} {row : List Value} {st src : Nat} (hx : cs[n]? = some ⟨none, g, t, ck, .agg row.toArray, st, src⟩)
  (hb : (Nat.ble ops.size st || waits ops st src && waits ops src i) = true) (hL : L i = false) (h : JC w0 ops l cs ks L vals W) : NbV W g t ck (.agg row.toArray) := by
 rcases (Bool.or_eq_true _ _).mp hb with h1 | h1
 ·exact h.still n hx rfl (Nat.le_of_ble_eq_true h1)
 ·obtain ⟨h2, h3⟩ := (Bool.and_eq_true _ _).mp h1;exact h.before n i hx rfl hL h2 h3
theorem JC.k3 (n m off : Nat) {g : Nat} {t T : TypeId} {ck : List Ck} {row : List Value} {st src : Nat} {v0 v1 v2 : Value} {x : Operand} {p : Vs} (c : Ctx ops a F) (hr : Ja.Steps Tryz.prog ops (JC w0 ops l cs ks) F (i + 1) rest)
  (hxn : cs[n]? = some ⟨none, g, t, ck, .agg row.toArray, st, src⟩ := by rfl) (hb : (Nat.ble ops.size st || waits ops st src && waits ops src i) = true := by kernel_rfl)
  (hc0 : row[off]? = some v0 := by rfl) (hc1 : row[off + 1]? = some v1 := by rfl) (hc2 : row[off + 2]? = some v2 := by rfl)
  (hks : ks[m]? = some (.agg #[v0, v1, v2], p) := by rfl) (hl : l.getD i .any = p := by rfl)
  (ho : ops[i]? = some o := by rfl) (hop : o.op = .load T x := by rfl) (hx : ∀ vals, (F (iX l o vals)).eval x = .pointer (some ⟨g, off, none⟩) := by intro vals; kernel_rfl)
  (hck : bM ops cs = true := by kernel_rfl) (hg : bF ops l o true = true := by kernel_rfl) (hf : (cs.all fun c => c.al != some i && c.st != i) = true := by kernel_rfl)
  (hT : ∀ w, Sem.run Tryz.prog (isAgg T) w = .ok true w := by intro _; kernel_rfl) (hS : ∀ w, Sem.run Tryz.prog (sizeOf T) w = .ok 3 w := by intro _; kernel_rfl) :
  Ja.Steps Tryz.prog ops (JC w0 ops l cs ks) F i (o :: rest) :=
 JC.r3 (fun _ _ _ hL hJ => JC.was n hxn hb hL hJ) (fun _ _ _ hJ => by rw [hl]; exact hJ.k _ (List.mem_of_getElem? hks)) c hr ho hop hx hc0 hc1 hc2 hck hg hf hT hS
theorem JC.k6 (n m : Nat) {g : Nat} {t T : TypeId} {ck : List Ck} {row : List Value} {st src : Nat} {v0 v1 v2 v3 v4 v5 : Value} {x : Operand} {p : Vs} (c : Ctx ops a F) (hr : Ja.Steps Tryz.prog ops (JC w0 ops l cs ks) F (i + 1) rest)
  (hxn : cs[n]? = some ⟨none, g, t, ck, .agg row.toArray, st, src⟩ := by rfl) (hb : (Nat.ble ops.size st || waits ops st src && waits ops src i) = true := by kernel_rfl)
  (hc0 : row[0]? = some v0 := by rfl) (hc1 : row[1]? = some v1 := by rfl) (hc2 : row[2]? = some v2 := by rfl) (hc3 : row[3]? = some v3 := by rfl) (hc4 : row[4]? = some v4 := by rfl) (hc5 : row[5]? = some v5 := by rfl)
  (hks : ks[m]? = some (.agg #[v0, v1, v2, v3, v4, v5], p) := by rfl) (hl : l.getD i .any = p := by rfl)
  (ho : ops[i]? = some o := by rfl) (hop : o.op = .load T x := by rfl) (hx : ∀ vals, (F (iX l o vals)).eval x = .pointer (some ⟨g, 0, none⟩) := by intro vals; kernel_rfl)
  (hck : bM ops cs = true := by kernel_rfl) (hg : bF ops l o true = true := by kernel_rfl) (hf : (cs.all fun c => c.al != some i && c.st != i) = true := by kernel_rfl)
  (hT : ∀ w, Sem.run Tryz.prog (isAgg T) w = .ok true w := by intro _; kernel_rfl) (hS : ∀ w, Sem.run Tryz.prog (sizeOf T) w = .ok 6 w := by intro _; kernel_rfl) :
  Ja.Steps Tryz.prog ops (JC w0 ops l cs ks) F i (o :: rest) :=
 JC.r6 (fun _ _ _ hL hJ => JC.was n hxn hb hL hJ) (fun _ _ _ hJ => by rw [hl]; exact hJ.k _ (List.mem_of_getElem? hks)) c hr ho hop hx hc0 hc1 hc2 hc3 hc4 hc5 hck hg hf hT hS
theorem JC.ka (n m off : Nat) {g : Nat} {t T : TypeId} {ck : List Ck} {v0 v1 v2 v3 v4 v5 u0 u1 u2 : Value} {st src : Nat} {x : Operand} {p q r : Rat} (c : Ctx ops a F) (hr : Ja.Steps Tryz.prog ops (JC w0 ops l cs ks) F (i + 1) rest)
  (hxn : cs[n]? = some ⟨none, g, t, ck, .agg #[v0, v1, v2, v3, v4, v5], st, src⟩ := by rfl) (hb : (Nat.ble ops.size st || waits ops st src && waits ops src i) = true := by kernel_rfl)
  (hks : ks[m]? = some (.agg #[v0, v1, v2, v3, v4, v5], .gen (gH p q)) := by rfl) (hl : l.getD i .any = .gen (aN r) := by rfl)
  (he : (off = 0 ∧ r = p ∧ u0 = v0 ∧ u1 = v1 ∧ u2 = v2) ∨ (off = 3 ∧ r = q ∧ u0 = v3 ∧ u1 = v4 ∧ u2 = v5) := by first | exact Or.inl ⟨rfl, rfl, rfl, rfl, rfl⟩ | exact Or.inr ⟨rfl, rfl, rfl, rfl, rfl⟩)
  (ho : ops[i]? = some o := by rfl) (hop : o.op = .load T x := by rfl) (hx : ∀ vals, (F (iX l o vals)).eval x = .pointer (some ⟨g, off, none⟩) := by intro vals; kernel_rfl)
  (hck : bM ops cs = true := by kernel_rfl) (hg : bF ops l o true = true := by kernel_rfl) (hf : (cs.all fun c => c.al != some i && c.st != i) = true := by kernel_rfl)
  (hT : ∀ w, Sem.run Tryz.prog (isAgg T) w = .ok true w := by intro _; kernel_rfl) (hS : ∀ w, Sem.run Tryz.prog (sizeOf T) w = .ok 3 w := by intro _; kernel_rfl) :
  Ja.Steps Tryz.prog ops (JC w0 ops l cs ks) F i (o :: rest) := by
 have hk : ∀ L vals W, JC w0 ops l cs ks L vals W → Ns W (.agg #[v0, v1, v2, v3, v4, v5]) p q := fun _ _ _ hJ => hJ.k _ (List.mem_of_getElem? hks);have form : ∀ W, Ns W (.agg #[v0, v1, v2, v3, v4, v5]) p q → Nq W (.agg #[v0, v1, v2]) p ∧ Nq W (.agg #[v3, v4, v5]) q := by
  intro W h;obtain ⟨s1, A1, n1, c1, A2, n2, c2, s2, A3, n3, c3, A4, n4, c4, e, h1, h2⟩ := h;simp only [Value.agg.injEq, Array.mk.injEq, List.cons.injEq, and_true] at e;obtain ⟨rfl, rfl, rfl, rfl, rfl, rfl⟩ := e;exact ⟨h1, h2⟩
 rcases he with ⟨rfl, rfl, rfl, rfl, rfl⟩ | ⟨rfl, rfl, rfl, rfl, rfl⟩
 ·exact JC.r3 (row := [u0, u1, u2, v3, v4, v5]) (fun _ _ _ hL hJ => JC.was n hxn hb hL hJ) (fun L vals W hJ => by rw [hl]; exact (form W (hk L vals W hJ)).1) c hr ho hop hx rfl rfl rfl hck hg hf hT hS
 ·exact JC.r3 (row := [v0, v1, v2, u0, u1, u2]) (fun _ _ _ hL hJ => JC.was n hxn hb hL hJ) (fun L vals W hJ => by rw [hl]; exact (form W (hk L vals W hJ)).2) c hr ho hop hx rfl rfl rfl hck hg hf hT hS
theorem JC.al {n : Nat} {x : Ce} {t : TypeId} {row : List Value} (hnew : Sh x.ck row) (c : Ctx ops a F) (hr : Ja.Steps Tryz.prog ops (JC w0 ops l cs ks) F (i + 1) rest)
  (hx : cs[n]? = some x := by rfl) (hal : x.al = some i := by rfl) (ht : x.t = t := by rfl) (hrow : x.row = .agg row.toArray := by rfl)
  (hf : ((cs.eraseIdx n).all fun c => c.al != some i && c.st != i) = true := by kernel_rfl) (hl : l.getD i .any = .any := by rfl)
  (ho : ops[i]? = some o := by rfl) (hck : bM ops cs = true := by kernel_rfl) (hg : bF ops l o true = true := by kernel_rfl)
  (hrun : ∀ vals w, (execOp (F vals).eval o).run Tryz.prog w = .ok (.value (.pointer (some ⟨w.heap.size, 0, none⟩))) (w.alloc (.cells row.toArray t)) := by intro vals w; kernel_rfl) :
  Ja.Steps Tryz.prog ops (JC w0 ops l cs ks) F i (o :: rest) :=
 Ja.Steps.cons (JC.alloc (t := t) (cells := row.toArray) c hck ho hg hx hal hf hl (fun W => by rw [hrow, ht]; exact NbV.mk hnew (Bx.new W _ _)) (fun vals w K hK => by
  unfold Oper.wp;rw [hrun vals w, Oper.upon_value];exact hK.out _ rfl)) hr
def zN : List Value := [.bool false, .slice none 0 0, .slice none 0 0]
def zR : List Value := [.int .i64 0, .slice none 0 0, .slice none 0 0]
theorem shN : Sh [.b, .s, .s] zN := ⟨⟨_, rfl⟩, ⟨_, _, _, rfl⟩, ⟨_, _, _, rfl⟩, trivial⟩
theorem shR : Sh [.i, .s, .s] zR := ⟨⟨_, rfl⟩, ⟨_, _, _, rfl⟩, ⟨_, _, _, rfl⟩, trivial⟩
theorem shS : Sh [.b, .s, .s, .b, .s, .s] (zN ++ zN) := ⟨⟨_, rfl⟩, ⟨_, _, _, rfl⟩, ⟨_, _, _, rfl⟩, ⟨_, rfl⟩, ⟨_, _, _, rfl⟩, ⟨_, _, _, rfl⟩, trivial⟩
theorem shT : Sh [.i, .s, .s, .i, .s, .s] (zR ++ zR) := ⟨⟨_, rfl⟩, ⟨_, _, _, rfl⟩, ⟨_, _, _, rfl⟩, ⟨_, rfl⟩, ⟨_, _, _, rfl⟩, ⟨_, _, _, rfl⟩, trivial⟩
def aJh (f : Nat → Value) (j k : Nat) (u v : Value) : Nat → Value := fun x => if x = j then u else if x = k then v else f x
theorem aJg (f : Nat → Value) (j k : Nat) {u v : Value} (h1 : f j = u) (h2 : f k = v) : aJh f j k u v = f := by
 funext x;unfold aJh;split
 ·rename_i h; rw [h, h1]
 ·split
  ·rename_i h; rw [h, h2]
  ·rfl
theorem JC.bs (j k : Nat) {p q : Rat} (c : Ctx ops a F) (hr : Ja.Steps Tryz.prog ops (JC w0 ops l cs ks) F (i + 1) rest)
  (hlj : l.getD j .any = .gen (aN p) := by rfl) (hlk : l.getD k .any = .gen (aN q) := by rfl) (hl : l.getD i .any = .gen (gH p q) := by rfl)
  (hj : (o.after.any fun e => Region.binds .any e && e.on == j) = true := by kernel_rfl) (hk : (o.after.any fun e => Region.binds .any e && e.on == k) = true := by kernel_rfl)
  (ho : ops[i]? = some o := by rfl) (hck : bM ops cs = true := by kernel_rfl) (hg : bF ops l o true = true := by kernel_rfl) (hf : (cs.all fun c => c.al != some i && c.st != i) = true := by kernel_rfl)
  (hrun : ∀ (vals : Nat → Value) w s1 A1 n1 c1 A2 n2 c2 s3 A3 n3 c3 A4 n4 c4, (execOp (F (aJh vals j k (.agg #[.bool s1, .slice A1 n1 c1, .slice A2 n2 c2]) (.agg #[.bool s3, .slice A3 n3 c3, .slice A4 n4 c4]))).eval o).run Tryz.prog w = .ok (.value (.agg #[.bool s1, .slice A1 n1 c1, .slice A2 n2 c2, .bool s3, .slice A3 n3 c3, .slice A4 n4 c4])) w := by intros; kernel_rfl) :
  Ja.Steps Tryz.prog ops (JC w0 ops l cs ks) F i (o :: rest) :=
 JC.o c (fun L vals w _ _ hd K hK => by
  have h1 := hd j hj;have h2 := hd k hk;unfold SL at h1 h2;rw [hlj] at h1;rw [hlk] at h2;have h1' : Nq w (vals j) p := h1;have h2' : Nq w (vals k) q := h2;obtain ⟨s1, A1, n1, c1, A2, n2, c2, e1, -⟩ := Nq.form h1';obtain ⟨s3, A3, n3, c3, A4, n4, c4, e2, -⟩ := Nq.form h2';have h := hrun vals w s1 A1 n1 c1 A2 n2 c2 s3 A3 n3 c3 A4 n4 c4;rw [aJg vals j k e1 e2] at h;unfold Oper.wp;rw [h, Oper.upon_value];refine hK.out _ w _ rfl ?_ (Q.refl _);unfold SL; rw [hl];rw [e1] at h1'; rw [e2] at h2';exact ⟨_, _, _, _, _, _, _, _, _, _, _, _, _, _, rfl, h1', h2'⟩) hr hck ho hg hf
theorem JC.bt (j k : Nat) {p q : Rat} (c : Ctx ops a F) (hr : Ja.Steps Tryz.prog ops (JC w0 ops l cs ks) F (i + 1) rest)
  (hlj : l.getD j .any = .gen (pRn p) := by rfl) (hlk : l.getD k .any = .gen (pRn q) := by rfl) (hl : l.getD i .any = .gen (pRs p q) := by rfl)
  (hj : (o.after.any fun e => Region.binds .any e && e.on == j) = true := by kernel_rfl) (hk : (o.after.any fun e => Region.binds .any e && e.on == k) = true := by kernel_rfl)
  (ho : ops[i]? = some o := by rfl) (hck : bM ops cs = true := by kernel_rfl) (hg : bF ops l o true = true := by kernel_rfl) (hf : (cs.all fun c => c.al != some i && c.st != i) = true := by kernel_rfl)
  (hrun : ∀ (vals : Nat → Value) w s1 A1 n1 c1 A2 n2 c2 s3 A3 n3 c3 A4 n4 c4, (execOp (F (aJh vals j k (.agg #[.int .i64 s1, .slice A1 n1 c1, .slice A2 n2 c2]) (.agg #[.int .i64 s3, .slice A3 n3 c3, .slice A4 n4 c4]))).eval o).run Tryz.prog w = .ok (.value (.agg #[.int .i64 s1, .slice A1 n1 c1, .slice A2 n2 c2, .int .i64 s3, .slice A3 n3 c3, .slice A4 n4 c4])) w := by intros; kernel_rfl) :
  Ja.Steps Tryz.prog ops (JC w0 ops l cs ks) F i (o :: rest) :=
 JC.o c (fun L vals w _ _ hd K hK => by
  have h1 := hd j hj;have h2 := hd k hk;unfold SL at h1 h2;rw [hlj] at h1;rw [hlk] at h2;have h1' : Rq w (vals j) p := h1;have h2' : Rq w (vals k) q := h2;have h1'' := h1'; have h2'' := h2';obtain ⟨A1, n1, c1, A2, n2, c2, e1, -⟩ := h1'';obtain ⟨A3, n3, c3, A4, n4, c4, e2, -⟩ := h2'';have h := hrun vals w (sn p) A1 n1 c1 A2 n2 c2 (sn q) A3 n3 c3 A4 n4 c4;rw [aJg vals j k e1 e2] at h;unfold Oper.wp;rw [h, Oper.upon_value];refine hK.out _ w _ rfl ?_ (Q.refl _);unfold SL; rw [hl];rw [e1] at h1'; rw [e2] at h2';exact ⟨_, _, _, _, _, _, _, _, _, _, _, _, _, _, rfl, h1', h2'⟩) hr hck ho hg hf
end
end Go.Proofs.YtgpacgadpnpjjaaGreatDoor.K
