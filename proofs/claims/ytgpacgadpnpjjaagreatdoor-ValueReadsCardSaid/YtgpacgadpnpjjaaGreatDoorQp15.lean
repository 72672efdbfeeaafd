/- ValueParses: for every string the law holds: what Check, Parse, Text and Digits return is what the document says. No condition.. Part of the proof: texts Vc3 Vc4 Vc5 Vc6. -/
import Derived.Laws.IdiomStrings
import Derived.Test.YtgpacgadpnpjjaaGreatDoorQp12
import Derived.Test.YtgpacgadpnpjjaaGreatDoorQp14
set_option maxHeartbeats 4000000
namespace Go.Proofs.YtgpacgadpnpjjaaGreatDoor
open Go.RowKit
open Ma Me
def Own (w : World) (base : Nat) (v : Value) (ds : List Nat) : Prop := w.ownsRow base 5 1 v ds.length (nums .u8 ds)
theorem aAL : (Tryz.prog.info? 5).map (fun i => (i.zero, i.size, i.bytes)) = some (some (.int .u8 0), 1, 1) := by kernel_rfl
theorem Own.form {w : World} {base : Nat} {v : Value} {ds : List Nat} (h : Own w base v ds) : ∃ A c, v = .slice A ds.length c := by
 rcases h.2 with ⟨h1, h2⟩ | ⟨g, cap, cur, h1, _⟩
 ·exact ⟨none, 0, by rw [h1, h2]⟩
 ·exact ⟨_, _, h1⟩
theorem Own.nil (w : World) (base : Nat) : Own w base (.slice none 0 0) [] := World.ownsRow_nil w base _ 1
theorem Own.kept {w w' : World} {base : Nat} {v : Value} {ds : List Nat} {r : Option Nat} (h : Own w base v ds) (hg : w.grownBy w' r) (hne : v.ownBlock = none ∨ v.ownBlock ≠ r) : Own w' base v ds := World.ownsRow.kept h hg hne
theorem Own.q {w w' : World} {base : Nat} {v : Value} {ds : List Nat} (h : Own w base v ds) (hq : Q w w') : Own w' base v ds :=
 World.ownsRow.kept (row := none) h ⟨hq.os, hq.tape, hq.output, hq.size, fun _ hk _ => hq.heap hk⟩ (by cases hv : v.ownBlock <;> simp)
theorem Own.lt {w : World} {base k : Nat} {v : Value} {ds : List Nat} (h : Own w base v ds) (hk : v.ownBlock = some k) : base ≤ k ∧ k < w.heap.size := World.ownsRow.lt h k hk
theorem Own.more {w : World} {base base' : Nat} {v : Value} {ds : List Nat} (h : Own w base v ds) (hb : base' ≤ base) : Own w base' v ds := by
 refine ⟨h.1, ?_⟩;rcases h.2 with h2 | ⟨g, cap, cur, a, b, c⟩
 ·exact .inl h2
 ·exact .inr ⟨g, cap, cur, a, by omega, c⟩
theorem kC {w1 : World} {ops : Array Oper} {rest : List Oper} {o : Oper} {a : Act} {Q : Exit → Act → World → Prop} (hgd : o.guard = none) (s x : Operand) (hop : o.op = Op.call { callee := Callee.builtin Builtin.append, args := #[s, x], argTypes := #[155, 155] })
  (base : Nat) (v : Value) (ds : List Nat) (hs : a.eval s = v) (hown : Own w1 base v ds) (y : Int) (d : Nat) (hy : y = (d : Int)) (hx : a.eval x = .slice (some ⟨w1.heap.size, 0, none⟩) 1 1)
  (hl : ds.length + 1 ≤ 70368744177664) (hb : base ≤ w1.heap.size)
  (hK : ∀ v' w', Own w' base v' (ds ++ [d]) → w1.grownBy w' v.ownBlock → (v'.ownBlock = v.ownBlock ∨ ∃ k, v'.ownBlock = some k ∧ w1.heap.size ≤ k) → wpList Tryz.prog ops Q rest (a.put o.dst v') w') :
  wpList Tryz.prog ops Q (o :: rest) a (w1.alloc (.cells #[.int .u8 y] 5)) := by
 subst hy;obtain ⟨i0, hi0, hz0, hz1, hz2⟩ := info_parts aAL;refine uE hgd s x _ hop base 5 i0 (.int .u8 0) 1 Tryz.underlying155 hi0 hz0 hz1 hz2 rfl v ds.length ds hs (World.ownsRow.alloc hown _) (w1.heap.size + 1) (some ⟨w1.heap.size, 0, none⟩) 1 1 [d] hx rfl
  ((Blk.new (κ := .u8) w1 5 [d]).rd (Nat.lt_succ_self _)) (by unfold maxLen; omega) (by omega) (by simp; omega) ?_
 intro v' w' h1 h2 h3;refine hK v' w' ?_ ?_ ?_
 ·unfold Own; rw [List.length_append]; exact h1
 ·refine World.grownBy.trans ?_ h2;exact ⟨rfl, rfl, rfl, by simp, fun k hk _ => by exact Below.heap_alloc w1 _ k hk⟩
 ·rcases h3 with h3 | h3
  ·exact Or.inl h3
  ·exact Or.inr ⟨_, h3, by simp⟩
theorem aDy (x : Value) (N : Nat) (w : World) (hx : Nm w x N) (hN : dg W64 N ≤ LIM) (h0 : 0 < N) : Calls Tryz.prog 211 #[x] w
  fun e w' => ∃ cs : List Nat, e = .returned (.slice (some ⟨w.heap.size, 0, none⟩) (dg W64 N) (dg W64 N)) ∧ Blk .u64 w' w.heap.size 140 cs ∧ cs.length = dg W64 N ∧ (∀ d ∈ cs, d < W64) ∧ vl W64 cs = N ∧ Q w w' := by
 obtain ⟨A, c, xs, rfl, hc, rx, wx, rfl⟩ := hx;rw [← wx.len aB] at hN ⊢;have hl0 : xs.length ≠ 0 := by
  intro h;rw [List.eq_nil_of_length_eq_zero h] at h0;simp [vl] at h0
 have h1 : ((xs.length : Int) == 0) = false := beq_eq_false_iff_ne.2 (by omega);have hmk := aCd xs.length (xs.length : Int) rfl hN;rw [aA] at hN;have hb : Blk .u64 (w.alloc (.cells (zs .u64 xs.length) 140)) w.heap.size 140 (List.replicate xs.length 0) := Blk.made _ _ _;have rx1 : Rw (w.alloc (.cells (zs .u64 xs.length) 140)) A xs := rx.q ((Q.refl _).alloc _);go_enter Tryz.func211, Tryz.ntmps211
 go_wp2_with (with_reducible refine fM rfl _ _ _ _ rfl 140 Tryz.underlying23 (by kernel_rfl) _ _ _ _ _ _ rfl rfl w.heap.size 0 140 (List.replicate xs.length 0) xs xs.length hb rx1 rfl (by omega) (fun _ => rfl) (by simp) ?_; intro w2 hb2 hg2)
 go_ret
 have e : (List.replicate xs.length 0).take 0 ++ xs.take xs.length ++ (List.replicate xs.length 0).drop (0 + xs.length) = xs := by simp
 rw [e] at hb2;exact ⟨xs, rfl, hb2, rfl, wx.1, rfl, Q.gr ((Q.refl _).alloc _) hg2 (Nat.le_refl _)⟩
theorem aCj (n : Nat) (e : Int) (he : e = (n : Int)) (hn : n ≤ 70368744177664) (w : World) :
  ∃ w', (Instr.makeSlice 155 (.int .i64 0) (.int .i64 e)).run Tryz.prog w = .ok (.slice (some ⟨w.heap.size, 0, none⟩) 0 n) w' ∧ Own w' w.heap.size (.slice (some ⟨w.heap.size, 0, none⟩) 0 n) [] ∧ Q w w' := by
 subst he;obtain ⟨i0, hi0, hz0, hz1, hz2⟩ := info_parts aAL;obtain ⟨w', h1, h2, h3⟩ := run_make_own (P := Tryz.prog) w w.heap.size 155 5 i0 (.int .u8 0) 1 Tryz.underlying155 hi0 hz0 hz1 .i64 .i64 n (by rw [hz2]; omega) (by unfold maxLen; omega) (Nat.le_refl _);exact ⟨w', h1, h2, Q.grown (Q.refl w) h3 (fun k e => by cases e)⟩
def Lf (w : World) (gl L : Nat) (v : Value) (T : Nat) : Prop :=
 (T = 0 ∧ v = .slice none 0 0) ∨ (0 < T ∧ ∃ cs : List Nat, v = .slice (some ⟨gl, 0, none⟩) (dg W64 T) L ∧ Blk .u64 w gl 140 cs ∧ dg W64 T ≤ cs.length ∧ cs.length ≤ L ∧ (∀ d ∈ cs.take (dg W64 T), d < W64) ∧ vl W64 (cs.take (dg W64 T)) = T)
theorem Lf.kept {w w' : World} {gl L T : Nat} {v : Value} {r : Option Nat} (h : Lf w gl L v T) (hg : w.grownBy w' r) (hne : r ≠ some gl) : Lf w' gl L v T := by
 rcases h with h | ⟨h0, cs, h1, h2, h3⟩
 ·exact Or.inl h
 ·refine Or.inr ⟨h0, cs, h1, ?_, h3⟩;exact (hg.block gl h2.lt (fun e => hne e.symm)).trans h2
theorem Lf.len {w : World} {gl L T : Nat} {v : Value} (h : Lf w gl L v T) : ∃ A c, v = .slice A (dg W64 T) c := by
 rcases h with ⟨h0, h1⟩ | ⟨h0, cs, h1, _⟩
 ·subst h0; exact ⟨none, 0, by rw [h1, aQ]⟩
 ·exact ⟨_, _, h1⟩
def bytes (l : List UInt8) : List Nat := l.map UInt8.toNat
theorem dC (l : List UInt8) : (bytes l).length = l.length := by simp [bytes]
theorem aBo (l : List UInt8) (c : UInt8) : bytes (l ++ [c]) = bytes l ++ [c.toNat] := by simp [bytes]
theorem kL (l m : List UInt8) : bytes (l ++ m) = bytes l ++ bytes m := by simp [bytes]
structure Og (w w' : World) (r : Option Nat) (v' : Value) : Prop where
 gr : w.grownBy w' r
 own : v'.ownBlock = r ∨ ∃ k, v'.ownBlock = some k ∧ w.heap.size ≤ k
theorem Og.start {w w' : World} {v : Value} (hq : Q w w') : Og w w' v.ownBlock v := ⟨⟨hq.os, hq.tape, hq.output, hq.size, fun _ hk _ => hq.heap hk⟩, Or.inl rfl⟩
theorem Og.q {w w1 w2 : World} {r : Option Nat} {v : Value} (h : Og w w1 r v) (hq : Q w1 w2) : Og w w2 r v :=
 ⟨World.grownBy.trans h.gr ⟨hq.os, hq.tape, hq.output, hq.size, fun _ hk _ => hq.heap hk⟩, h.own⟩
theorem Og.step {w w1 w2 : World} {r : Option Nat} {v v2 : Value} (h : Og w w1 r v) (hg : w1.grownBy w2 v.ownBlock) (h2 : v2.ownBlock = v.ownBlock ∨ ∃ k, v2.ownBlock = some k ∧ w1.heap.size ≤ k) : Og w w2 r v2 := by
 have hs : w.heap.size ≤ w1.heap.size := h.gr.size;refine ⟨⟨hg.os.trans h.gr.os, hg.tape.trans h.gr.tape, hg.output.trans h.gr.output, Nat.le_trans hs hg.size, fun k hk hne => ?_⟩, ?_⟩
 ·have hk1 : some k ≠ v.ownBlock := by
   rcases h.own with e | ⟨j, e, hj⟩
   ·rw [e]; exact hne
   ·rw [e]; intro e2; injection e2 with e2; omega
  exact (hg.block k (Nat.lt_of_lt_of_le hk hs) hk1).trans (h.gr.block k hk hne)
 ·rcases h2 with e | ⟨j, e, hj⟩
  ·rw [e]; exact h.own
  ·exact Or.inr ⟨j, e, Nat.le_trans hs hj⟩
theorem zH {v : Value} {r : Option Nat} (h : ∀ j, r = some j → v.ownBlock ≠ some j) : v.ownBlock = none ∨ v.ownBlock ≠ r := by
 cases hv : v.ownBlock with
 | none => exact Or.inl rfl
 | some j => exact Or.inr (fun e => h j e.symm hv)
theorem zI {w : World} {base : Nat} {v v2 ov : Value} {ds : List Nat} (h : ∀ j, ov.ownBlock = some j → v.ownBlock ≠ some j) (ho : Own w base v ds) (h2 : v2.ownBlock = ov.ownBlock ∨ ∃ k, v2.ownBlock = some k ∧ w.heap.size ≤ k) :
  ∀ j, v2.ownBlock = some j → v.ownBlock ≠ some j := by
 intro j e e2;rcases h2 with h2 | ⟨k, h2, hk⟩
 ·rw [h2] at e; exact h j e e2
 ·rw [h2] at e;injection e with e;have := (ho.lt e2).2;omega
theorem tH {w : World} {base n c i : Nat} {A : Option Addr} {ds : List Nat} (h : Own w base (.slice A n c) ds) (hn : ds.length = n) (hi : i < n) : ∃ g, A = some ⟨g, 0, none⟩ ∧ w.cell? ⟨g, i, none⟩ = some (.int .u8 ((ds[i]'(by omega) : Nat) : Int)) := by
 unfold Own at h;rw [hn] at h;obtain ⟨g, cap, e, _, _, _, _, _, rd⟩ := aAz h (by omega);injection e with e1 e2 e3;subst e1;obtain ⟨ad, e4, _, hc⟩ := rd.at_ (k := i) (by omega);injection e4 with e4;subst e4;rw [iG, Nat.zero_add] at hc;exact ⟨g, rfl, hc⟩
theorem aDz {row : List UInt8} {n i : Nat} (hn : row.length = n) (hi : i < n) : bytes (row.reverse.take (n - i)) = bytes (row.reverse.take (n - (i + 1))) ++ [(bytes row)[i]'(by rw [dC]; omega)] := by
 have e : n - i = n - (i + 1) + 1 := by omega
 rw [e, List.take_add_one, kL];congr 1;rw [List.getElem?_eq_getElem (by rw [List.length_reverse]; omega)];simp only [Option.toList_some, bytes, List.map_cons, List.map_nil, List.getElem_map];congr 2;rw [List.getElem_reverse];congr 1;omega
set_option maxRecDepth 100000 in
theorem aAp (out x : Value) (os : List Nat) (N width base : Nat) (z : Int) (w : World) (ho : Own w base out os) (hx : Nm w x N) (hz : z = (width : Int)) (hw : width = 0 ∨ N < 10 ^ width) (hsz : os.length + width + 100 * dg W64 N + 1000 ≤ 1099511627776) (hbase : base ≤ w.heap.size) (hN0 : 0 < N) :
  Calls Tryz.prog 194 #[out, x, .int .i64 z] w fun e w' => ∃ v, e = .returned v ∧ Own w' base v (os ++ bytes (dw width N)) ∧ w.grownBy w' out.ownBlock ∧ (v.ownBlock = out.ownBlock ∨ ∃ k, v.ownBlock = some k ∧ w.heap.size ≤ k) := by
 subst hz;obtain ⟨L, hL⟩ : ∃ L, dg W64 N = L := ⟨_, rfl⟩
 obtain ⟨A, c, rfl, hc⟩ := hx.parts;obtain ⟨Ao, co, rfl⟩ := ho.form;have HL := Lib.hid hL;rw [hL] at hx hsz hc ⊢;clear hL;go_enter Tryz.func194, Tryz.ntmps194
 go_wp2_with fail
 refine (aDy _ N _ hx (by rw [HL.out, aA]; omega) hN0).mono ?_;rintro e w1 ⟨cs, rfl, hb1, lcs, hcs, hv, hq1⟩;rw [HL.out] at lcs ⊢;obtain ⟨w2, hmk, hown, hq2⟩ := aCj (20 * L) (20 * (L : Int)) (by omega) (by omega) w1;have hlf : Lf w2 w.heap.size L (.slice (some ⟨w.heap.size, 0, none⟩) L L) N := Or.inr ⟨hN0, cs, by rw [HL.out], hb1.q hq2, by rw [HL.out, lcs]; exact Nat.le_refl _, by omega, aI hcs, by rw [HL.out, List.take_of_length_le (by omega)]; exact hv⟩;have HLF := Lib.hid hlf;have hgl := hb1.lt;have hq12 := hq1.trans hq2;have hs1 := hq1.size;clear hlf hb1 lcs hcs hv;go_wp2_with fail
 go_loopg [7, 8] N (fun gk lv rv w3 => ∃ row : List UInt8, Lf w3 w.heap.size L lv gk ∧ Own w3 w1.heap.size rv (bytes row) ∧ Hid (Ma.Rw N gk row) ∧ Q w w3 ∧ gk ≤ N ∧ w1.heap.size ≤ w3.heap.size)
 case atStart => exact ⟨[], HLF.out, hown, Lib.hid (Ma.Rw.start N), hq12, Nat.le_refl _, hq2.size⟩
 case round =>
  obtain ⟨row, hlf, hrow, hrw, hq, hgN, hbase3⟩ := hrel;have hrl := hrw.out.len;have hdN : dg 10 N ≤ 20 * L := by
   rw [aD (by decide)];have h1 := aM aB N;rw [HL.out] at h1;have h2 : W64 ^ L ≤ (10 ^ 20) ^ L := Nat.pow_le_pow_left (by decide) L;rw [← Nat.pow_mul] at h2;omega
  have hrl' : (bytes row).length ≤ 20 * L := (by rw [dC]; omega);rcases Nat.eq_zero_or_pos gk with hg0 | hg0
  ·subst hg0;rcases hlf with ⟨-, rfl⟩ | ⟨h0, _⟩
   case inr => omega
   have hdone := hrw.out.done;have hdw := aBV hw;obtain ⟨nr, hnr⟩ : ∃ nr, (bytes row).length = nr := ⟨_, rfl⟩
   obtain ⟨Ar, cr, rfl⟩ := hrow.form;rw [hnr] at hrl' hrow ⊢;have hnrd : nr = dg 10 N := by
    rw [← hnr, dC];have := congrArg List.length hdone;rw [xX, List.length_reverse] at this;exact this.symm
   have HNR := Lib.hid hnr;have HDW : Hid (dw width N = List.replicate (width - nr) 48 ++ row.reverse) := Lib.hid (by rw [hdw, ← hdone, hnrd]);have hog := Og.start (v := .slice Ao os.length co) hq;have hon := ho.q hq;have hdis : ∀ j, (Value.slice Ao os.length co).ownBlock = some j → (Value.slice Ar nr cr).ownBlock ≠ some j := fun j e e2 => by
    have h1 := (ho.lt e).2;have h2 := (hrow.lt e2).1;omega
   have hbw : base ≤ wr.heap.size := Nat.le_trans hbase hq.size;clear hnr hdone hdw hnrd hrw;generalize hro : (Value.slice Ao os.length co).ownBlock = ro at *
   go_wp2_with fail
   obtain ⟨wo, rfl⟩ : ∃ wo : World, wo = wr := ⟨_, rfl⟩
   go_loopw [0, 11] (fun ov iv w5 => ∃ (i : Nat), iv = .int .i64 (i : Int) ∧ nr ≤ i ∧ i ≤ max nr width ∧ Own w5 base ov (os ++ bytes (List.replicate (i - nr) 48)) ∧ Own w5 w1.heap.size (.slice Ar nr cr) (bytes row) ∧ Og w w5 ro ov ∧
    (∀ j, ov.ownBlock = some j → (Value.slice Ar nr cr).ownBlock ≠ some j) ∧ base ≤ w5.heap.size) (fun _ iv _ => max nr width - (intOf iv).toNat)
   case atStart => exact ⟨nr, rfl, by omega, by omega, by rw [Nat.sub_self]; simp [bytes]; exact hon, hrow, hog, by intro j e; rw [hro] at e; exact hdis j e, hbw⟩
   case round =>
    obtain ⟨i, rfl, hi1, hi2, hon, hrow, hog, hdis, hbw⟩ := hrel;by_cases hlt : i < width
    ·have j1 : (i : Int) < (width : Int) := (by omega);obtain ⟨lo, hlo⟩ : ∃ lo, (os ++ bytes (List.replicate (i - nr) 48)).length = lo := ⟨_, rfl⟩
     obtain ⟨Av, cv, rfl⟩ := hon.form;have hlol : lo ≤ os.length + width := (by rw [← hlo, List.length_append, dC, List.length_replicate]; omega);rw [hlo] at hon hdis hog ⊢;have HLO := Lib.hid hlo; clear hlo;go_wp2_with (at_builtin; go_loud (refine kC rfl _ _ rfl base _ (os ++ bytes (List.replicate (i - nr) 48)) rfl hon (48 : Int) 48 rfl rfl (by rw [HLO.out]; omega) hbw ?_); intro v7 w7 h71 h72 h73)
     have ho7 : Own w7 base v7 (os ++ bytes (List.replicate (i + 1 - nr) 48)) := by
      rw [show i + 1 - nr = (i - nr) + 1 by omega, List.replicate_succ', kL, ← List.append_assoc]; exact h71
     have hr7 := hrow.kept h72 (zH hdis);have hg7 := hog.step h72 h73;have hd7 := zI hdis hrow h73;have hb7 := Nat.le_trans hbw h72.size;exact ⟨⟨i + 1, congrArg (Value.int _) (by omega), by omega, by omega, ho7, hr7, hg7, hd7, hb7⟩, by simp [intOf]; omega⟩
    ·have j1 : ¬ (i : Int) < (width : Int) := (by omega);have hir : i - nr = width - nr := (by omega);rw [hir] at hon;obtain ⟨Av, cv, rfl⟩ := hon.form;have HIR := Lib.hid hir; clear hir;obtain ⟨zs, hzs⟩ : ∃ zs, os ++ bytes (List.replicate (width - nr) 48) = zs := ⟨_, rfl⟩
     rw [hzs] at hon hdis hog ⊢;have hzl : zs.length ≤ os.length + width := (by rw [← hzs, List.length_append, dC, List.length_replicate]; omega);have HZS := Lib.hid hzs; clear hzs;have lrow : row.length = nr := (by rw [← HNR.out, dC]);have LROW := Lib.hid lrow; clear lrow;go_wp2_with fail
     go_loopw [0, 12] (fun ov iv w5 => ∃ (j : Nat), iv = .int .i64 ((j : Int) - 1) ∧ j ≤ nr ∧ Own w5 base ov (zs ++ bytes (row.reverse.take (nr - j))) ∧ Own w5 w1.heap.size (.slice Ar nr cr) (bytes row) ∧ Og w w5 ro ov ∧
      (∀ j, ov.ownBlock = some j → (Value.slice Ar nr cr).ownBlock ≠ some j) ∧ base ≤ w5.heap.size) (fun _ iv _ => (intOf iv + 1).toNat)
     case atStart => exact ⟨nr, rfl, Nat.le_refl _, by rw [Nat.sub_self]; simp [bytes]; exact hon, hrow, hog, hdis, hbw⟩
     case round =>
      obtain ⟨j, rfl, hj, hon, hrow, hog, hdis, hbw⟩ := hrel;obtain ⟨lo, hlo⟩ : ∃ lo, (zs ++ bytes (row.reverse.take (nr - j))).length = lo := ⟨_, rfl⟩
      obtain ⟨Av, cv, rfl⟩ := hon.form;have hlol : lo ≤ zs.length + nr := (by rw [← hlo, List.length_append, dC, List.length_take]; omega);rw [hlo] at hon hdis hog ⊢;have HLO := Lib.hid hlo; clear hlo;by_cases hlt : 0 < j
      ·obtain ⟨i, rfl⟩ : ∃ i, j = i + 1 := ⟨j - 1, by omega⟩
       rw [show ((i + 1 : Nat) : Int) - 1 = (i : Int) from by omega];obtain ⟨g, rfl, hcell⟩ := tH hrow HNR.out (i := i) (by omega);have hrt := aDz LROW.out (show i < nr by omega);generalize (bytes row)[i]'(by rw [HNR.out]; omega) = d at hcell hrt;have HRT := Lib.hid hrt; clear hrt;go_wp2_with (at_builtin; go_loud (refine kC rfl _ _ rfl base _ (zs ++ bytes (row.reverse.take (nr - (i + 1)))) rfl hon (d : Int) d rfl rfl (by rw [HLO.out]; omega) hbw ?_); intro v7 w7 h71 h72 h73)
       have ho7 : Own w7 base v7 (zs ++ bytes (row.reverse.take (nr - i))) := by
        rw [HRT.out, ← List.append_assoc]; exact h71
       have hr7 := hrow.kept h72 (zH hdis);have hg7 := hog.step h72 h73;have hd7 := zI hdis hrow h73;have hb7 := Nat.le_trans hbw h72.size;exact ⟨⟨i, rfl, by omega, ho7, hr7, hg7, hd7, hb7⟩, by simp [intOf]⟩
      ·obtain rfl : j = 0 := (by omega);rw [show ((0 : Nat) : Int) - 1 = -1 from by omega];have hfin : zs ++ bytes (row.reverse.take (nr - 0)) = os ++ bytes (dw width N) := by
        rw [Nat.sub_zero, List.take_of_length_le (by rw [List.length_reverse, LROW.out]; exact Nat.le_refl _), HDW.out, kL, ← List.append_assoc, HZS.out]
       rw [hfin] at hon;clear hfin;go_wp2_with fail
       go_ret
       exact ⟨_, rfl, hon, by rw [hro]; exact hog.gr, by rw [hro]; exact hog.own⟩
  ·rcases hlf with ⟨h0, _⟩ | ⟨_, cs, rfl, hb, hkc, hcL, hcs, hv⟩
   ·omega
   have hkN : dg W64 gk ≤ L := (by rw [← HL.out]; exact aR aB hgN);have hk0 : 0 < dg W64 gk := by
    rcases Nat.eq_zero_or_pos (dg W64 gk) with h | h
    ·have := aW aB h; omega
    ·exact h
   obtain ⟨k, hk⟩ : ∃ k, dg W64 gk = k := ⟨_, rfl⟩
   rw [hk] at hkc hcs hv hkN hk0 ⊢;have HK := Lib.hid hk; clear hk;have lck : (cs.take k).length = k := (by rw [List.length_take]; omega);have so : Src wr w.heap.size 0 (some ⟨w.heap.size, 0, none⟩) (cs.take k) := by
    have h := Src.own (off := 0) (n := k) hb
    rwa [List.drop_zero] at h
   have LCK := Lib.hid lck; have HV := Lib.hid hv;clear lck hv;go_wp2_with fail
   refine (jQ (some ⟨w.heap.size, 0, none⟩) (some ⟨w.heap.size, 0, none⟩) k L k L w.heap.size 140 0 10000000000000000000 (cs.take k) cs _ hb LCK.out (by omega) (fun _ => rfl) (Nat.le_refl _) (by omega) (by omega) (by omega) so hcs (by decide) (by decide)).mono ?_;rintro e w4 ⟨o, rfl, lo, ho', hvo, hb4, hg4⟩;rw [HV.out] at hvo ⊢;have hOn4 := hrow.kept hg4 (by
    right;intro e;have := (hrow.lt e).1;omega)
   have hq4 := Q.gr hq hg4 (Nat.le_refl _);have e4 : cs.take 0 ++ o ++ cs.drop (0 + k) = o ++ cs.drop k := (by simp);rw [e4] at hb4;have rwo : Rw w4 (some ⟨w.heap.size, 0, none⟩) o := by
    have h := Rw.part (off := 0) (n := k) hb4
    rwa [List.drop_zero, List.take_append_of_le_length (by omega), List.take_of_length_le (by omega)] at h
   obtain ⟨G, hG⟩ : ∃ G, gk / 10000000000000000000 = G := ⟨_, rfl⟩
   obtain ⟨p0, hp0⟩ : ∃ p, gk % 10000000000000000000 = p := ⟨_, rfl⟩
   rw [hG] at hvo;rw [hp0];have hp0l : p0 < 10 ^ 19 := (by rw [← hp0]; exact Nat.lt_of_lt_of_eq (Nat.mod_lt _ (by decide)) (by decide));have hGk : G * 10 ^ 19 + p0 = gk := by
    rw [← hG, ← hp0, show (10 : Nat) ^ 19 = 10000000000000000000 by decide, Nat.mul_comm]; exact Nat.div_add_mod _ _
   have hGlt : G < gk := (by rw [← hG]; exact Nat.div_lt_self hg0 (by decide));have hlfG : Lf w4 w.heap.size L (gP (some ⟨w.heap.size, 0, none⟩) L G) G := by
    rcases Nat.eq_zero_or_pos G with h | h
    ·subst h; exact Or.inl ⟨rfl, uQ⟩
    ·have hd : dg W64 G ≤ k := (by rw [← HK.out]; exact aR aB (Nat.le_of_lt hGlt));have ht : (o ++ cs.drop k).take (dg W64 G) = o.take (dg W64 G) := List.take_append_of_le_length (by omega);refine Or.inr ⟨h, o ++ cs.drop k, nC h, hb4, by rw [List.length_append]; omega, by rw [List.length_append, List.length_drop]; omega, by rw [ht]; exact aI ho', ?_⟩;rw [ht];have := iR (b := W64) (n := dg W64 G) (xs := o) (by omega) ho';rw [hvo, Nat.mod_eq_of_lt (aM aB G)] at this;exact this
   have hrwG : Hid (Ma.Rw N (G * 10 ^ 19 + p0) row) := (by rw [hGk]; exact hrw);have HGL := Lib.hid hGlt;have hsz4 : w1.heap.size ≤ w4.heap.size := Nat.le_trans hbase3 hg4.size;clear hG hp0 hGk hGlt e4 hb4 hg4 so hb hcs;go_wp2_with fail
   refine (v_trimmed' (some ⟨w.heap.size, 0, none⟩) L k G o _ lo (by omega) (by omega) rwo ho' hvo).mono ?_;rintro e w5 ⟨rfl, rfl⟩;generalize hvL : gP (some ⟨w.heap.size, 0, none⟩) L G = vL at *
   clear hvL;obtain ⟨A', c', rfl⟩ := hlfG.len;obtain ⟨kG, hkG⟩ : ∃ kG, dg W64 G = kG := ⟨_, rfl⟩
   have hG0 : kG = 0 ↔ G = 0 := by
    rw [← hkG];constructor
    ·intro h; exact aW aB h
    ·intro h; rw [h, aQ]
   have hkG63 : kG ≤ L := (by rw [← hkG]; exact Nat.le_trans (aR aB (Nat.le_of_lt HGL.out)) (by rw [HK.out]; exact hkN));rw [hkG] at hlfG ⊢;clear hkG rwo lo ho' hvo;go_wp2_with fail
   go_loopw [8, 9, 10] (fun rv pv iv w6 => ∃ (i p : Nat) (row : List UInt8), i ≤ 19 ∧ iv = .int .i64 (i : Int) ∧ pv = .int .u64 (p : Int) ∧ Hid (p < 10 ^ (19 - i)) ∧ p < 10000000000000000000 ∧ Own w6 w1.heap.size rv (bytes row) ∧ Hid (Ma.Rw N (G * 10 ^ (19 - i) + p) row) ∧
    Lf w6 w.heap.size L (.slice A' kG c') G ∧ Q w w6 ∧ w1.heap.size ≤ w6.heap.size) (fun _ _ iv _ => 19 - (intOf iv).toNat)
   case atStart => exact ⟨0, p0, row, by omega, rfl, rfl, Lib.hid hp0l, by omega, hOn4, hrwG, hlfG, hq4, hsz4⟩
   case round =>
    obtain ⟨i, p, row, hi, rfl, rfl, hpl, hp19, hrow, hrw, hlf, hq, hbase6⟩ := hrel;have hlen : (bytes row).length ≤ 20 * L := (by have := hrw.out.len; rw [dC]; omega);have hfin : ∀ T, G * 10 ^ (19 - i) + p = T → T = G → Hid (Ma.Rw N G row) := fun T h1 h2 => (by rw [← h2, ← h1]; exact hrw);rcases Nat.lt_or_ge i 19 with hlt | hge
    ·by_cases hbody : 0 < p ∨ 0 < kG
     ·obtain ⟨m, hm⟩ : ∃ m, p % 10 = m := ⟨_, rfl⟩
      obtain ⟨p', hp'⟩ : ∃ m, p / 10 = m := ⟨_, rfl⟩
      have hm9 : m < 10 := (by omega);obtain ⟨cd, hcd⟩ : ∃ c, 48 + m = c := ⟨_, rfl⟩
      have j1 : (p : Int) % 10 = (m : Int) := (by omega);have j2 : 48 + (m : Int) = (cd : Int) := (by omega);have j3 : IntKind.u64.wrap (cd : Int) = (cd : Int) := aJ (by omega);have j4 : IntKind.u8.wrap (cd : Int) = (cd : Int) := (by rw [IntKind.wrap_u8]; omega);have j5 : (p : Int) / 10 = (p' : Int) := (by omega);have hT : 0 < G * 10 ^ (19 - i) + p := by
       rcases hbody with h | h
       ·omega
       ·have hg : 0 < G := by
         rcases Nat.eq_zero_or_pos G with h2 | h2
         ·have := hG0.2 h2; omega
         ·exact h2
        have := Nat.mul_pos hg (show 0 < 10 ^ (19 - i) from Nat.pow_pos (by decide));omega
      have hst := hrw.out.step hT;obtain ⟨i', hi'⟩ : ∃ i', 19 - i = i' + 1 := ⟨18 - i, by omega⟩
      have hpl' := hpl.out;rw [hi'] at hst hpl';obtain ⟨t1, t2, t3⟩ := aC4 (M := G) hpl';rw [t1, t2, hm, hp'] at hst;rw [hp'] at t3;have HST := Lib.hid hst; have T3 := Lib.hid t3; have HI' := Lib.hid hi'; have HCD := Lib.hid hcd;have hp19' : p' < 10000000000000000000 := (by omega);clear hm hp' hst t1 t2 t3 hT hi' hpl' hfin hcd;obtain ⟨nr, hnr⟩ : ∃ nr, (bytes row).length = nr := ⟨_, rfl⟩
      obtain ⟨Ar, cr, rfl⟩ := hrow.form;rw [hnr] at hlen hrow ⊢;have HNR := Lib.hid hnr; clear hnr;rcases Nat.eq_zero_or_pos p with hpz | hpz
      case' inl =>
       have k1 : ¬ (0 : Int) < (p : Int) := (by omega);have k1n : ¬ 0 < p := (by omega);have k2 : (0 : Int) < (kG : Int) := (by omega);have k2n : 0 < kG := (by omega);have HPZ := Lib.hid hpz
      case' inr =>
       have k1 : (0 : Int) < (p : Int) := (by omega);have HPZ := Lib.hid hpz
      all_goals
       clear hpz hbody;go_wp2_with (at_builtin; go_loud (refine kC rfl _ _ rfl w1.heap.size _ (bytes row) rfl hrow (cd : Int) cd rfl rfl (by rw [HNR.out]; omega) hbase6 ?_); intro v7 w7 h71 h72 h73)
       have hrow7 : Own w7 w1.heap.size v7 (bytes (row ++ [dig m])) := by
        rw [aBo, jC hm9, HCD.out]; exact h71
       have hnb : ∀ j, (Value.slice Ar nr cr).ownBlock = some j → w1.heap.size ≤ j := fun j e => (hrow.lt e).1;have hlf7 := hlf.kept h72 (fun e => by have := hnb _ e; omega);have hq7 := Q.grown hq h72 (fun j e => by have := hnb _ e; omega);have hsz7 := Nat.le_trans hbase6 h72.size;clear h71 h72 h73 hnb hrow hlf hq;go_wp2_with fail
       exact ⟨⟨i + 1, p', row ++ [dig m], by omega, congrArg (Value.int _) (by omega), rfl, Lib.hid (by rw [show 19 - (i + 1) = i' by have := HI'.out; omega]; exact T3.out), hp19', hrow7, Lib.hid (by rw [show 19 - (i + 1) = i' by have := HI'.out; omega]; exact HST.out), hlf7, hq7, hsz7⟩, by simp [intOf]; omega⟩
     ·have hp0' : p = 0 := (by omega);have hkG0 : kG = 0 := (by omega);have hGz := hG0.1 hkG0;have HR := Lib.hid (hfin _ rfl (by rw [hGz, hp0', Nat.zero_mul]));have k1 : ¬ (0 : Int) < (p : Int) := (by omega);have k1n : ¬ 0 < p := (by omega);have k2 : ¬ (0 : Int) < (kG : Int) := (by omega);have k2n : ¬ 0 < kG := (by omega);obtain ⟨Ar, cr, rfl⟩ := hrow.form;clear hp0' hkG0 hGz hbody hfin hG0;go_wp2_with fail
      go_roundg G
      case measure => exact HGL.out
      case rel => exact ⟨row, by have h := hlf; exact h, hrow, HR.out, hq, by have := HGL.out; omega, hbase6⟩
    ·obtain rfl : i = 19 := (by omega);have hpz : p = 0 := (by have := hpl.out; simp at this; omega);have HR := Lib.hid (hfin _ rfl (by rw [hpz]; simp));have k1 : ¬ ((19 : Nat) : Int) < 19 := (by omega);obtain ⟨Ar, cr, rfl⟩ := hrow.form;clear hpz hfin;go_wp2_with fail
     go_roundg G
     case measure => exact HGL.out
     case rel => exact ⟨row, hlf, hrow, HR.out, hq, by have := HGL.out; omega, hbase6⟩
set_option maxRecDepth 100000 in
theorem zJ (out x : Value) (os : List Nat) (width base : Nat) (z : Int) (w : World) (ho : Own w base out os) (hx : Nm w x 0) (hz : z = (width : Int)) (hsz : os.length + width + 1000 ≤ 1099511627776) (hbase : base ≤ w.heap.size) :
  Calls Tryz.prog 194 #[out, x, .int .i64 z] w fun e w' => ∃ v, e = .returned v ∧ Own w' base v (os ++ bytes (dw width 0)) ∧ w.grownBy w' out.ownBlock ∧ (v.ownBlock = out.ownBlock ∨ ∃ k, v.ownBlock = some k ∧ w.heap.size ≤ k) := by
 subst hz;obtain ⟨A, c, rfl, hc⟩ := hx.parts;obtain ⟨Ao, co, rfl⟩ := ho.form;have hdw : dw width 0 = List.replicate width 48 := by
  have hp : 0 < 10 ^ width := Nat.pow_pos (by decide);have h := aBV (w := width) (N := 0) (Or.inr hp);rw [h, aQ, pV]; simp
 have HDW := Lib.hid hdw; clear hdw;rw [aQ] at hx hc ⊢;go_enter Tryz.func194, Tryz.ntmps194
 go_wp2_with fail
 refine (vK _ 0 _ hx (by rw [aQ, aA]; omega)).mono ?_;rintro e w1 ⟨lv, rfl, hlv, hq1, -⟩;obtain ⟨A1, c1, rfl, hc1⟩ := hlv.parts;rw [aQ] at hc1 ⊢;obtain ⟨w2, hmk, hown, hq2⟩ := aCj 0 0 rfl (by omega) w1;have hq12 := hq1.trans hq2;have hs1 := hq1.size;have hog := Og.start (v := .slice Ao os.length co) hq12;have hon := ho.q hq12;have hbw : base ≤ w2.heap.size := Nat.le_trans hbase hq12.size;generalize hro : (Value.slice Ao os.length co).ownBlock = ro at *
 go_wp2_with fail
 go_loopw [7, 8] (fun lv rv w3 => lv = .slice A1 0 c1 ∧ rv = .slice (some ⟨w1.heap.size, 0, none⟩) 0 0 ∧ w3 = w2) (fun _ _ _ => 0)
 case atStart => exact ⟨rfl, rfl, rfl⟩
 case round =>
  obtain ⟨rfl, rfl, rfl⟩ := hrel;go_wp2_with fail
  go_loopw [0, 11] (fun ov iv w5 => ∃ (i : Nat), iv = .int .i64 (i : Int) ∧ i ≤ width ∧ Own w5 base ov (os ++ bytes (List.replicate i 48)) ∧ Og w w5 ro ov ∧ base ≤ w5.heap.size) (fun _ iv _ => width - (intOf iv).toNat)
  case atStart => exact ⟨0, rfl, by omega, by simp [bytes]; exact hon, hog, hbw⟩
  case round =>
   obtain ⟨i, rfl, hi2, hon, hog, hbw⟩ := hrel;obtain ⟨lo, hlo⟩ : ∃ lo, (os ++ bytes (List.replicate i 48)).length = lo := ⟨_, rfl⟩
   obtain ⟨Av, cv, rfl⟩ := hon.form;have hlol : lo ≤ os.length + width := (by rw [← hlo, List.length_append, dC, List.length_replicate]; omega);rw [hlo] at hon hog ⊢;have HLO := Lib.hid hlo; clear hlo;by_cases hlt : i < width
   ·have j1 : (i : Int) < (width : Int) := (by omega);go_wp2_with (at_builtin; go_loud (refine kC rfl _ _ rfl base _ (os ++ bytes (List.replicate i 48)) rfl hon (48 : Int) 48 rfl rfl (by rw [HLO.out]; omega) hbw ?_); intro v7 w7 h71 h72 h73)
    have ho7 : Own w7 base v7 (os ++ bytes (List.replicate (i + 1) 48)) := by
     rw [List.replicate_succ', kL, ← List.append_assoc]; exact h71
    have hg7 := hog.step h72 h73;have hb7 := Nat.le_trans hbw h72.size;exact ⟨⟨i + 1, congrArg (Value.int _) (by omega), by omega, ho7, hg7, hb7⟩, by simp [intOf]; omega⟩
   ·obtain rfl : i = width := (by omega);have j1 : ¬ (i : Int) < (i : Int) := (by omega);rw [← HDW.out] at hon;go_wp2_with fail
    go_loopw [0, 12] (fun ov iv w6 => ov = .slice Av lo cv ∧ iv = .int .i64 (-1) ∧ w6 = wr) (fun _ _ _ => 0)
    case atStart => exact ⟨rfl, rfl, rfl⟩
    case round =>
     obtain ⟨rfl, rfl, rfl⟩ := hrel;go_wp2_with fail
     go_ret
     exact ⟨_, rfl, hon, by rw [hro]; exact hog.gr, by rw [hro]; exact hog.own⟩
theorem aFC (out x : Value) (os : List Nat) (N width base : Nat) (z : Int) (w : World) (ho : Own w base out os) (hx : Nm w x N) (hz : z = (width : Int)) (hw : width = 0 ∨ N < 10 ^ width) (hsz : os.length + width + 100 * dg W64 N + 1000 ≤ 1099511627776) (hbase : base ≤ w.heap.size) :
  Calls Tryz.prog 194 #[out, x, .int .i64 z] w fun e w' => ∃ v, e = .returned v ∧ Own w' base v (os ++ bytes (dw width N)) ∧ Og w w' out.ownBlock v := by
 rcases Nat.eq_zero_or_pos N with h | h
 ·subst h;refine (zJ out x os width base z w ho hx hz (by omega) hbase).mono ?_;rintro e w' ⟨v, h1, h2, h3, h4⟩;exact ⟨v, h1, h2, h3, h4⟩
 ·refine (aAp out x os N width base z w ho hx hz hw hsz hbase h).mono ?_;rintro e w' ⟨v, h1, h2, h3, h4⟩;exact ⟨v, h1, h2, h3, h4⟩
def Us (w : World) (v : Value) (n : Nat) : Prop := ∃ A c, v = .slice A n c ∧ n ≤ c ∧ ∀ i, i < n → ∃ g u, A = some ⟨g, 0, none⟩ ∧ g < w.heap.size ∧ w.cell? ⟨g, i, none⟩ = some u ∧ Nm w u (10 ^ (304 * 2 ^ i))
theorem Us.q {w w' : World} {v : Value} {n : Nat} (h : Us w v n) (hq : Q w w') : Us w' v n := by
 obtain ⟨A, c, h1, h2, h3⟩ := h;refine ⟨A, c, h1, h2, fun i hi => ?_⟩;obtain ⟨g, u, k1, k2, k3, k4⟩ := h3 i hi;exact ⟨g, u, k1, Nat.lt_of_lt_of_le k2 hq.size, (hq.cell (p := ⟨g, i, none⟩) k2).trans k3, k4.q hq⟩
theorem Us.pre {w : World} {A : Option Addr} {n c : Nat} (h : Us w (.slice A (n + 1) c) (n + 1)) : Us w (.slice A n c) n := by
 obtain ⟨A', c', h1, h2, h3⟩ := h;injection h1 with e1 e2 e3;subst e1 e3;exact ⟨A, c, rfl, by omega, fun i hi => h3 i (by omega)⟩
theorem Me.Nm.og {w w' : World} {r : Option Nat} {v : Value} {N : Nat} (h : Nm w v N) (hg : w.grownBy w' r) (hne : ∀ g, v.ownBlock = some g → r ≠ some g) : Nm w' v N := by
 obtain ⟨A, c, ws, rfl, h2, h3, h4, h5⟩ := h;refine ⟨A, c, ws, rfl, h2, fun hn => ?_, h4, h5⟩;obtain ⟨b, o, rfl, hb, hc⟩ := h3 hn;refine ⟨b, o, rfl, Nat.lt_of_lt_of_le hb hg.size, fun j d hd => ?_⟩;have hh : w'.heap[b]? = w.heap[b]? := hg.block b hb (fun e => hne b rfl e.symm);have := hc j d hd;unfold World.cell? at this ⊢;rw [hh];exact this
theorem aDA {w w' : World} {base : Nat} {r : Option Nat} (hg : w.grownBy w' r) (hr : ∀ k, r = some k → base ≤ k) (hb : base ≤ w.heap.size) : Below base w w' :=
 ⟨hg.os, hg.tape, hg.output, hg.size, fun k hk => hg.block k (by omega) (fun e => by have := hr k e.symm; omega)⟩
theorem aEq {w w' : World} {base : Nat} (hq : Q w w') (hb : base ≤ w.heap.size) : Below base w w' := ⟨hq.os, hq.tape, hq.output, hq.size, fun k hk => hq.heap (by omega)⟩
set_option maxRecDepth 100000 in
theorem vO (n : Nat) : ∀ (out x us : Value) (os : List Nat) (N width base : Nat) (z : Int) (w : World), Own w base out os → Nm w x N → (∀ w', Below base w w' → Us w' us n) → z = (width : Int) → (width = 0 ∨ width = 304 * 2 ^ n) → (width = 0 ∨ N < 10 ^ width) → n ≤ 40 → os.length + (dw width N).length ≤ 549755813888 → 100 * dg W64 N + 4 * (304 * 2 ^ n) ≤ 274877906944 → base ≤ w.heap.size →
  Calls Tryz.prog 157 #[out, x, .int .i64 z, us] w fun e w' => ∃ v, e = .returned v ∧ Own w' base v (os ++ bytes (dw width N)) ∧ Og w w' out.ownBlock v := by
 induction n with
 | zero =>
   intro out x us os N width base z w ho hx hu hz hw hwN hn hlen hD hbase;subst hz;obtain ⟨A, c, rfl, hc, -⟩ := hu w (Below.refl _ _);clear hu;go_enter Tryz.func157, Tryz.ntmps157
   go_wp2_with fail
   refine (aFC out x os N width base _ _ ho hx rfl hwN (by omega) hbase).mono ?_;rintro e w' ⟨v, rfl, hv, hog⟩;go_wp2_with fail
   go_ret
   exact ⟨v, rfl, hv, hog⟩
 | succ n ih =>
   intro out x us os N width base z w ho hx hu hz hw hwN hn hlen hD hbase;subst hz;obtain ⟨K, hK⟩ : ∃ K, 304 * 2 ^ n = K := ⟨_, rfl⟩
   have hK2 : 304 * 2 ^ (n + 1) = K + K := (by rw [Nat.pow_succ, ← hK]; omega);have hK0 : 0 < K := (by rw [← hK]; exact Nat.mul_pos (by decide) (Nat.pow_pos (by decide)));rw [hK2] at hw hD;obtain ⟨A, c, rfl, hc, hcell⟩ := hu w (Below.refl _ _);obtain ⟨g, u, rfl, hg, hcu, hnu⟩ := hcell n (by omega);rw [hK] at hnu;clear hcell;have hpre : ∀ w', Below base w w' → Us w' (.slice (some ⟨g, 0, none⟩) n c) n := fun w' h => (hu w' h).pre;have hU0 : 0 < 10 ^ K := Nat.pow_pos (by decide);have hdU : dg W64 (10 ^ K) ≤ K + 1 := by
    rw [aD aB];exact Nat.lt_of_le_of_lt (Nat.pow_le_pow_left (by decide) K) (Nat.pow_lt_pow_right aB (by omega))
   have hsp := fun h => aC3 (N := N) hK0 hw h;have hwN1 : width - K = 0 ∨ N / 10 ^ K < 10 ^ (width - K) := by
    rcases hw with h2 | h2
    ·left; clear hwN; omega
    ·rcases hwN with h | h
     ·left; omega
     ·right;rw [h2, show K + K - K = K from Nat.add_sub_cancel K K, Nat.div_lt_iff_lt_mul hU0, ← Nat.pow_add, ← h2];exact h
   have hmodU : N % 10 ^ K < 10 ^ K := Nat.mod_lt _ hU0;have hlow := aEP (k := K) (N := N);obtain ⟨U, hU⟩ : ∃ U, 10 ^ K = U := ⟨_, rfl⟩
   rw [hU] at hnu hU0 hdU hsp hmodU hlow;rw [hU] at hwN1;have HWN1 := Lib.hid hwN1;have HMODU : Hid (N % U < 10 ^ K) := Lib.hid (by rw [hU]; exact hmodU);have HSP := Lib.hid hsp; have HLOW := Lib.hid hlow;clear hU hwN hwN1 hmodU hsp hlow;have hd1 : dg W64 (N / U) ≤ dg W64 N := jF aB;have hd2 : dg W64 (N % U) ≤ dg W64 N := dg_rest' aB;have hi1 : (n : Int) + 1 - 1 = (n : Int) := (by omega);have hshl : wrap64 ((304 : Int) * 2 ^ n) = (K : Int) := by
    have e : (304 : Int) * 2 ^ n = (K : Int) := (by rw [← hK, Int.natCast_mul, Int.natCast_pow]; rfl);rw [e, wrap64]; omega
   have HSH := Lib.hid hshl; clear hshl;have hcap : (n : Int) ≤ (c : Int) := (by omega);have hmax : max ((width : Int) - (K : Int)) 0 = ((width - K : Nat) : Int) := (by omega);have hform := hx.form;obtain ⟨Ax, kx, cx, rfl⟩ := hform;obtain ⟨Ao, co, rfl⟩ := ho.form;have HK := Lib.hid hK; have HK2 := Lib.hid hK2;clear hK hK2 hu;go_enter Tryz.func157, Tryz.ntmps157
   go_wp2_with fail
   rw [HSH.out];refine (mH N (U) _ _ _ hx hnu hU0 (by rw [aA]; omega)).mono ?_;rintro e w1 ⟨hv, lv, rfl, hhi, hlo, hq1, hnh, hnl⟩;obtain ⟨Ah, ch, rfl, hch⟩ := hhi.parts;obtain ⟨Al, kl, cl, rfl⟩ := hlo.form;have hon1 := ho.q hq1;have hbq1 := aEq hq1 hbase;have hb1 := Nat.le_trans hbase hq1.size;obtain ⟨kh, hkh⟩ : ∃ kh, dg W64 (N / U) = kh := ⟨_, rfl⟩
   have hkh0 : kh = 0 ↔ N / U = 0 := by
    rw [← hkh];exact ⟨fun h => aW aB h, fun h => by rw [h, aQ]⟩
   rw [hkh] at hhi hch ⊢;have HKH := Lib.hid hkh; clear hkh;by_cases hsplit : 0 < kh ∨ 0 < width
   ·have hpos : 0 < N / U ∨ 0 < width := by
     rcases hsplit with h | h
     ·left;rcases Nat.eq_zero_or_pos (N / U) with h2 | h2
      ·have := hkh0.2 h2; omega
      ·exact h2
     ·exact Or.inr h
    have hdw := HSP.out hpos;have hl2 := congrArg List.length hdw;rw [List.length_append] at hl2;have hlenB : os.length + (dw (width - K) (N / U)).length ≤ 549755813888 := Nat.le_trans (Nat.add_le_add_left (by rw [hl2]; exact Nat.le_add_right _ _) _) hlen;have hlenC : os.length + (dw (width - K) (N / U)).length + (dw K (N % U)).length ≤ 549755813888 := (by rw [Nat.add_assoc, ← hl2]; exact hlen);have HLENB := Lib.hid hlenB; have HLENC := Lib.hid hlenC; clear hlenB hlenC hl2;have hbl : bytes (dw width N) = bytes (dw (width - K) (N / U)) ++ bytes (dw K (N % U)) := (by rw [hdw, kL]);have hll : (bytes (dw (width - K) (N / U))).length = (dw (width - K) (N / U)).length := dC _;have HBL := Lib.hid hbl; have HLL := Lib.hid hll;clear hdw hbl hkh0 hpos hll;rcases Nat.eq_zero_or_pos kh with hz | hz
    case' inl =>
     have k1 : ¬ (0 : Int) < (kh : Int) := (by omega);have k1n : ¬ 0 < kh := (by omega);have k2 : (0 : Int) < (width : Int) := (by omega);have k2n : 0 < width := (by omega);have HZ := Lib.hid hz
    case' inr =>
     have k1 : (0 : Int) < (kh : Int) := (by omega);have HZ := Lib.hid hz
    all_goals
     clear hz hsplit;go_wp2_with fail
     refine (ih _ _ _ os (N / U) (width - K) base _ _ hon1 hhi (fun w' h => hpre w' (hbq1.trans h)) (by omega) (by rw [HK.out]; clear hlen; omega) HWN1.out (by omega) HLENB.out (by rw [HK.out]; clear hlen; omega) hb1).mono ?_;rintro e w2 ⟨v2, rfl, hv2, hog2⟩;have hlo2 := hlo.og hog2.gr (fun g' e1 e2 => by
      have h1 := (ho.lt e2).2;cases Al with
      | none => cases e1
      | some ad =>
        have h2 := hnl ad _ _ rfl;injection e1 with e1;omega)
     have hbw2 := aDA hog2.gr (fun k e => (ho.lt e).1) hb1;go_wp2_with fail
     refine (ih _ _ _ (os ++ bytes (dw (width - K) (N / U))) (N % U) K base _ _ hv2 hlo2 (fun w' h => hpre w' (hbq1.trans (hbw2.trans h))) rfl (Or.inr HK.out.symm) (Or.inr HMODU.out) (by omega) (by rw [List.length_append, HLL.out]; exact HLENC.out) (by rw [HK.out]; clear hlen; omega) (Nat.le_trans hb1 hog2.gr.size)).mono ?_;rintro e w3 ⟨v3, rfl, hv3, hog3⟩;rw [List.append_assoc, ← HBL.out] at hv3;have hog := (Og.q (Og.start (v := .slice Ao os.length co) (Q.refl w)) hq1)
     have hogf : Og w w3 (Value.slice Ao os.length co).ownBlock v3 := (Og.step hog hog2.gr (by
      rcases hog2.own with h | ⟨k, h, hk⟩
      ·exact Or.inl h
      ·exact Or.inr ⟨k, h, hk⟩)).step hog3.gr hog3.own
     go_wp2_with fail
     go_ret
     exact ⟨v3, rfl, hv3, hogf⟩
   ·have hz : kh = 0 := (by omega);have hwz : width = 0 := (by omega);have hq0 := hkh0.1 hz;have hmod := HLOW.out hq0;have hdwl : dw width N = dw 0 (N % U) := (by rw [hwz, hmod]);have hlenA : os.length + (dw 0 (N % U)).length ≤ 549755813888 := (by rw [← hdwl]; exact hlen);have HLENA := Lib.hid hlenA; clear hlenA;have HDWL := Lib.hid hdwl;have k1 : ¬ (0 : Int) < (kh : Int) := (by omega);have k1n : ¬ 0 < kh := (by omega);have k2 : ¬ (0 : Int) < (width : Int) := (by omega);have k2n : ¬ 0 < width := (by omega);have hwi : (width : Int) = ((0 : Nat) : Int) := (by omega);have HWI := Lib.hid hwi;clear hz hwz hq0 hmod hdwl hkh0 hsplit hwi;go_wp2_with fail
    refine (ih _ _ _ os (N % U) 0 base _ _ hon1 hlo (fun w' h => hpre w' (hbq1.trans h)) HWI.out (Or.inl rfl) (Or.inl rfl) (by omega) HLENA.out (by rw [HK.out]; clear hlen; omega) hb1).mono ?_;rintro e w2 ⟨v2, rfl, hv2, hog2⟩;rw [← HDWL.out] at hv2;have hog := (Og.q (Og.start (v := .slice Ao os.length co) (Q.refl w)) hq1)
    have hogf : Og w w2 (Value.slice Ao os.length co).ownBlock v2 := Og.step hog hog2.gr hog2.own;go_wp2_with fail
    go_ret
    exact ⟨v2, rfl, hv2, hogf⟩
theorem aDB : (Tryz.prog.info? 23).map (fun i => (i.zero, i.size, i.bytes)) = some (some (.slice none 0 0), 1, 24) := by kernel_rfl
theorem aFd (k : Nat) : k < 20 * dg W64 (10 ^ k) := by
 have h1 := aM aB (10 ^ k);have h2 : W64 ^ dg W64 (10 ^ k) ≤ (10 ^ 20) ^ dg W64 (10 ^ k) := Nat.pow_le_pow_left (by decide) _;rw [← Nat.pow_mul] at h2;exact (Nat.pow_lt_pow_iff_right (by decide)).1 (Nat.lt_of_lt_of_le h1 h2)
structure Uo (w : World) (base : Nat) (v : Value) (vs : List Value) : Prop where
 own : w.ownsRow base 23 1 v vs.length vs
 nm : ∀ (i : Nat) (u : Value), vs[i]? = some u → Nm w u (10 ^ (304 * 2 ^ i))
 dis : ∀ (i : Nat) (u : Value) (g : Nat), vs[i]? = some u → u.ownBlock = some g → v.ownBlock ≠ some g
theorem Uo.us {w : World} {base : Nat} {v : Value} {vs : List Value} (h : Uo w base v vs) : Us w v vs.length := by
 have ho := h.own;rcases ho.2 with ⟨h1, h2⟩ | ⟨g, cap, cur, h1, hb, hh, hnc, hcm, hcs, htake⟩
 ·exact ⟨none, 0, by rw [h1, h2], by omega, fun i hi => by omega⟩
 ·refine ⟨_, cap, h1, hnc, fun i hi => ?_⟩;have hlt : g < w.heap.size := by
   rcases Nat.lt_or_ge g w.heap.size with hlt | hge
   ·exact hlt
   ·rw [Array.getElem?_eq_none hge] at hh; cases hh
  have hu : vs[i]? = some (vs[i]'hi) := List.getElem?_eq_getElem hi;have hc := World.ownsRow.cells ho (g := g) (by rw [h1]; rfl) i _ hu;rw [iG, Nat.zero_add] at hc;exact ⟨g, _, rfl, hlt, hc, h.nm i _ hu⟩
theorem aAq {w1 : World} {ops : Array Oper} {rest : List Oper} {o : Oper} {a : Act} {Q' : Exit → Act → World → Prop} (hgd : o.guard = none) (s x : Operand) (hop : o.op = Op.call { callee := Callee.builtin Builtin.append, args := #[s, x], argTypes := #[157, 157] })
  (base : Nat) (v : Value) (vs : List Value) (hs : a.eval s = v) (hown : Uo w1 base v vs) (u : Value) (hu : Nm w1 u (10 ^ (304 * 2 ^ vs.length))) (hud : ∀ g, u.ownBlock = some g → v.ownBlock ≠ some g) (hx : a.eval x = .slice (some ⟨w1.heap.size, 0, none⟩) 1 1)
  (hl : vs.length + 1 ≤ 1000000) (hb : base ≤ w1.heap.size)
  (hK : ∀ v' w', Uo w' base v' (vs ++ [u]) → w1.grownBy w' v.ownBlock → wpList Tryz.prog ops Q' rest (a.put o.dst v') w') :
  wpList Tryz.prog ops Q' (o :: rest) a (w1.alloc (.cells #[u] 23)) := by
 obtain ⟨i0, hi0, hz0, hz1, hz2⟩ := info_parts aDB;have hone : u.oneCell' = true := by obtain ⟨A, c, ws, rfl, _⟩ := hu; rfl
 refine wpList_plain hgd fun K hK' => ?_
 obtain ⟨v', w', hrun, r1, r2, _, r3⟩ := run_append_own_at (P := Tryz.prog) (w1.alloc (.cells #[u] 23)) base 157 o.type 23 i0 (.slice none 0 0) 1 24 Tryz.underlying157 hi0 hz0 hz1 hz2 rfl (by decide) v vs.length vs
  (World.ownsRow.alloc hown.own _) ⟨w1.heap.size, 0, none⟩ 1 1 [u] rfl (fun j u' hj => by
   rcases j with _ | j
   ·simp at hj; subst hj; rw [iG]; exact cO _ _ _
   ·simp at hj) (by simpa using hone) (by unfold maxLen; omega) (by omega) (by simp; omega)
 have h0 : w1.grownBy (w1.alloc (.cells #[u] 23)) v.ownBlock := ⟨rfl, rfl, rfl, by simp, fun k hk _ => by exact Below.heap_alloc w1 _ k hk⟩
 have hgr : w1.grownBy w' v.ownBlock := World.grownBy.trans h0 r2;unfold Oper.wp;simp [execOp, hop, resolve, invoke, builtin, hs, hx, hrun, Result.andThen];refine hK' _ _ (hK v' w' ⟨by rw [List.length_append]; exact r1, ?_, ?_⟩ hgr)
 ·intro i u' hi;rcases Nat.lt_or_ge i vs.length with h | h
  ·rw [List.getElem?_append_left h] at hi;exact (hown.nm i u' hi).og hgr (fun g e => hown.dis i u' g hi e)
  ·rw [List.getElem?_append_right h] at hi;have : i = vs.length := by
    rcases Nat.eq_zero_or_pos (i - vs.length) with h2 | h2
    ·omega
    ·rw [List.getElem?_eq_none (by simp; omega)] at hi; cases hi
   subst this;simp at hi;subst hi;exact hu.og hgr hud
 ·intro i u' g hi e;have hold : u'.ownBlock = some g → v.ownBlock ≠ some g ∧ g < w1.heap.size := by
   intro e;have hN : ∃ M, Nm w1 u' M ∧ 0 < M := by
    rcases Nat.lt_or_ge i vs.length with h | h
    ·rw [List.getElem?_append_left h] at hi;exact ⟨_, hown.nm i u' hi, Nat.pow_pos (by decide)⟩
    ·rw [List.getElem?_append_right h] at hi;rcases Nat.eq_zero_or_pos (i - vs.length) with h2 | h2
     ·rw [h2] at hi; simp at hi; subst hi; exact ⟨_, hu, Nat.pow_pos (by decide)⟩
     ·rw [List.getElem?_eq_none (by simp; omega)] at hi; cases hi
   have hne : v.ownBlock ≠ some g := by
    rcases Nat.lt_or_ge i vs.length with h | h
    ·rw [List.getElem?_append_left h] at hi;exact hown.dis i u' g hi e
    ·rw [List.getElem?_append_right h] at hi;rcases Nat.eq_zero_or_pos (i - vs.length) with h2 | h2
     ·rw [h2] at hi; simp at hi; subst hi; exact hud g e
     ·rw [List.getElem?_eq_none (by simp; omega)] at hi; cases hi
   obtain ⟨M, ⟨A, c, ws, rfl, h2, h3, h4, h5⟩, hM⟩ := hN;refine ⟨hne, ?_⟩;have hw0 : 0 < ws.length := by
    rcases Nat.eq_zero_or_pos ws.length with h | h
    ·rw [List.eq_nil_of_length_eq_zero h] at h5; simp [vl] at h5; omega
    ·exact h
   obtain ⟨b, o, rfl, hb, _⟩ := h3 hw0;cases e;exact hb
  obtain ⟨n1, n2⟩ := hold e;rcases r3 with r3 | r3
  ·rw [r3]; exact n1
  ·rw [r3];intro e2;injection e2 with e2;simp at e2;omega
theorem Uo.start {w : World} {u : Value} {k : Nat} (hk : k = 304 * 2 ^ 0) (hu : Nm w u (10 ^ k)) : Uo (w.alloc (.cells #[u] 23)) w.heap.size (.slice (some ⟨w.heap.size, 0, none⟩) 1 1) [u] := by
 refine ⟨⟨rfl, Or.inr ⟨w.heap.size, 1, #[u], rfl, Nat.le_refl _, heap_alloc_new w _, Nat.le_refl _, by decide, rfl, rfl⟩⟩, ?_, ?_⟩
 ·intro i u' hi;rcases i with _ | i
  ·simp at hi; subst hi; rw [← hk]; exact hu.q ((Q.refl w).alloc _)
  ·simp at hi
 ·intro i u' g hi e;rcases i with _ | i
  ·simp at hi;subst hi;obtain ⟨A, c, ws, rfl, h2, h3, h4, h5⟩ := hu;have hw0 : 0 < ws.length := by
    rcases Nat.eq_zero_or_pos ws.length with h | h
    ·rw [List.eq_nil_of_length_eq_zero h] at h5; exact absurd h5 (Nat.ne_of_lt (Nat.pow_pos (by decide)))
    ·exact h
   obtain ⟨b, o, rfl, hb, _⟩ := h3 hw0;cases e;intro e2;injection e2 with e2;simp at e2;omega
  ·simp at hi
theorem Uo.q {w w' : World} {base : Nat} {v : Value} {vs : List Value} (h : Uo w base v vs) (hq : Q w w') : Uo w' base v vs :=
 ⟨World.ownsRow.kept (row := none) h.own ⟨hq.os, hq.tape, hq.output, hq.size, fun _ hk _ => hq.heap hk⟩ (by cases hv : v.ownBlock <;> simp), fun i u hi => (h.nm i u hi).q hq, h.dis⟩
theorem Uo.lt {w : World} {base k : Nat} {v : Value} {vs : List Value} (h : Uo w base v vs) (hk : v.ownBlock = some k) : base ≤ k ∧ k < w.heap.size := World.ownsRow.lt h.own k hk
theorem Uo.last {w : World} {base m : Nat} {v : Value} {vs : List Value} (h : Uo w base v vs) (hm : vs.length = m + 1) : ∃ g c u, v = .slice (some ⟨g, 0, none⟩) (m + 1) c ∧ g < w.heap.size ∧ w.cell? ⟨g, m, none⟩ = some u ∧ Nm w u (10 ^ (304 * 2 ^ m)) := by
 obtain ⟨A, c, h1, h2, h3⟩ := h.us;rw [hm] at h1 h2;obtain ⟨g, u, rfl, k2, k3, k4⟩ := h3 m (by omega);exact ⟨g, c, u, h1, k2, k3, k4⟩
theorem aCk {N : Nat} (h : dg W64 N ≤ 1000000000) {m : Nat} (hm : 304 * 2 ^ m ≤ 20 * (dg W64 N + 1) + 608) : m < 40 := by
 rcases Nat.lt_or_ge m 40 with h1 | h1
 ·exact h1
 ·have h2 : 2 ^ 40 ≤ 2 ^ m := Nat.pow_le_pow_right (by decide) h1;have h3 : (2 : Nat) ^ 40 = 1099511627776 := (by decide);omega
theorem aFe (k : Nat) : dg W64 (10 ^ k) ≤ k + 1 := by
 rw [aD aB];exact Nat.lt_of_le_of_lt (Nat.pow_le_pow_left (by decide) k) (Nat.pow_lt_pow_right aB (by omega))
theorem aFf (m : Nat) : 10 ^ (304 * 2 ^ m) * 10 ^ (304 * 2 ^ m) = 10 ^ (304 * 2 ^ (m + 1)) := by
 rw [← Nat.pow_add]; congr 1; rw [Nat.pow_succ]; omega
theorem aBp (x : Value) (N : Nat) (w : World) (hx : Nm w x N) (hN : dg W64 N ≤ 1000000000) : Calls Tryz.prog 158 #[x] w
  fun e w' => ∃ v n, e = .returned v ∧ Us w' v n ∧ Q w w' ∧ n ≤ 40 ∧ 304 * 2 ^ n ≤ 40 * (dg W64 N + 1) + 1216 := by
 obtain ⟨A, c, rfl, hc⟩ := hx.parts;obtain ⟨L, hL⟩ : ∃ L, dg W64 N = L := ⟨_, rfl⟩
 rw [hL] at hc hx hN ⊢;have HL := Lib.hid hL; clear hL;go_enter Tryz.func158, Tryz.ntmps158
 by_cases hsm : L ≤ 16
 ·have k1 : (L : Int) ≤ 16 := (by omega);go_wp2_with fail
  go_ret
  exact ⟨_, 0, rfl, ⟨none, 0, rfl, by omega, fun i hi => by omega⟩, Q.refl _, by omega, by omega⟩
 ·have k1 : ¬ (L : Int) ≤ 16 := (by omega);obtain ⟨T, hT⟩ : ∃ T, T = 304 * 2 ^ 0 := ⟨_, rfl⟩
  have HT := Lib.hid hT; clear hT;go_wp2_with fail
  refine (nS T _ _ (by rw [HT.out]; rfl) (by rw [aA, HT.out]; omega)).mono ?_;rintro e w1 ⟨u0, rfl, hu0, hq1, -⟩;have hUo := Uo.start HT.out hu0;have hQ0 := hq1.alloc (.cells #[u0] 23);have hs1 := hq1.size;obtain ⟨Az, kz, cz, rfl⟩ := hu0.form;clear hu0;go_wp2_with fail
  go_loopg [3] 64 (fun gk uv w2 => ∃ (m : Nat) (vs : List Value), vs.length = m + 1 ∧ Uo w2 w1.heap.size uv vs ∧ Q w w2 ∧ w1.heap.size ≤ w2.heap.size ∧ gk + m = 64 ∧ m < 40 ∧ 304 * 2 ^ m ≤ 20 * (L + 1) + 608)
  case atStart => exact ⟨0, [_], rfl, hUo, hQ0, by simp, rfl, by omega, by omega⟩
  case round =>
   obtain ⟨wo, rfl⟩ : ∃ wo : World, wo = wr := ⟨_, rfl⟩
   obtain ⟨m, vs, hvl, hU, hq2, hb2, hgk, hm40, hmL⟩ := hrel;obtain ⟨g, cu, u, rfl, hg, hcell, hnu⟩ := hU.last hvl;have hm1 : ((m : Int) + 1) - 1 = (m : Int) := (by omega);obtain ⟨l, hl⟩ : ∃ l, dg W64 (10 ^ (304 * 2 ^ m)) = l := ⟨_, rfl⟩
   have hten := aFd (304 * 2 ^ m);obtain ⟨Au, cu2, rfl, hcu2⟩ := hnu.parts;rw [hl] at hten hcu2 hnu hcell;have hl2 := aFe (304 * 2 ^ m);rw [hl] at hl2;have hlb : l ≤ 100000000000 := (by omega);have hnext : ¬ L + 1 < 2 * l → m + 1 < 40 ∧ 304 * 2 ^ (m + 1) ≤ 20 * (L + 1) + 608 := by
    intro h;have h1 : 304 * 2 ^ (m + 1) ≤ 20 * (L + 1) + 608 := (by rw [Nat.pow_succ]; omega);exact ⟨aCk (N := N) (by rw [HL.out]; exact hN) (by rw [HL.out]; exact h1), h1⟩
   have HLL := Lib.hid hl; clear hl hl2;have HML := Lib.hid hmL; have HTEN := Lib.hid hten; have HVL := Lib.hid hvl; have HNX := Lib.hid hnext;clear hmL hten hvl hnext;by_cases hstop : L + 1 < 2 * l
   ·have k2 : (L : Int) + 1 < 2 * (l : Int) := (by omega);go_wp2_with fail
    go_ret
    refine ⟨_, m + 1, rfl, ?_, hq2, by omega, ?_⟩
    ·have := hU.us;rw [HVL.out] at this;exact this
    ·have := HML.out;rw [Nat.pow_succ]; omega
   ·have k2 : ¬ (L : Int) + 1 < 2 * (l : Int) := (by omega);have HNX2 := Lib.hid (HNX.out hstop);go_wp2_with fail
    refine (dP _ _ _ _ _ hnu hnu (by rw [HLL.out, aA]; omega)).mono ?_;rintro e w3 ⟨uv, rfl, huv, hq3, hnw⟩;rw [aFf] at huv;obtain ⟨Av, kv, cv, rfl⟩ := huv.form;have hU3 := hU.q hq3;have hs3 := hq3.size;have hud : ∀ g', (Value.slice Av kv cv).ownBlock = some g' → (Value.slice (some ⟨g, 0, none⟩) (m + 1) cu).ownBlock ≠ some g' := by
     intro g' e1 e2;cases Av with
     | none => cases e1
     | some ad =>
       have h2 := hnw ad _ _ rfl;injection e1 with e1;injection e2 with e2;simp at e2;omega
    go_wp2_with (at_builtin; go_loud (refine aAq rfl _ _ rfl w1.heap.size (.slice (some ⟨g, 0, none⟩) (m + 1) cu) vs rfl hU3 (.slice Av kv cv) (by rw [HVL.out]; exact huv) hud rfl (by rw [HVL.out]; omega) (Nat.le_trans hb2 hs3) ?_); intro v7 w7 h71 h72)
    go_roundg (gk - 1)
    case measure => omega
    case rel =>
     obtain ⟨h8, h9⟩ := HNX2.out;refine ⟨m + 1, vs ++ [.slice Av kv cv], by rw [List.length_append, HVL.out]; rfl, h71, ?_, Nat.le_trans hb2 (Nat.le_trans hs3 h72.size), by omega, h8, h9⟩;exact Q.grown (hq2.trans hq3) h72 (fun k e => Nat.le_trans hs1 (hU3.lt e).1)
theorem aBq {N : Nat} : (dec N).length ≤ 20 * dg W64 N + 1 := by
 rw [dU];split
 ·omega
 ·have h : dg 10 N ≤ 20 * dg W64 N := by
   rw [aD (by decide)];refine Nat.lt_of_lt_of_le (aM aB N) ?_;rw [Nat.pow_mul];exact Nat.pow_le_pow_left (by decide) _
  omega
theorem aAr (N : Nat) : 0 < (dec N).length := by
 rw [dU];split
 ·omega
 ·rename_i h;rcases Nat.eq_zero_or_pos (dg 10 N) with h2 | h2
  ·exact absurd (aW (by decide) h2) h
  ·exact h2
theorem aDC {w : World} {base : Nat} {v : Value} {l : List UInt8} (h : Own w base v (bytes l)) (hl : 0 < l.length) : ∃ g cap, v = .slice (some ⟨g, 0, none⟩) l.length cap ∧ (convert 155 9 (.slice (some ⟨g, 0, none⟩) l.length cap)).run Tryz.prog w = .ok (.string ⟨l.toArray⟩) w := by
 obtain ⟨A, c, rfl⟩ := h.form;rw [dC] at h ⊢;obtain ⟨g, rfl, _⟩ := tH h (dC l) hl;refine ⟨g, c, rfl, run_convert_bytes_back w _ _ 5 _ c l Tryz.underlying155 (by kernel_rfl) (by kernel_rfl) (fun j hj => ?_)⟩;obtain ⟨g', e, hc⟩ := tH h (dC l) hj;injection e with e;injection e with e1;subst e1;rw [iG, Nat.zero_add, hc];simp [bytes]
theorem oU (x : Value) (N : Nat) (w : World) (hx : Nm w x N) (hN : dg W64 N ≤ 1000000000) : Calls Tryz.prog 87 #[x] w
  fun e w' => ∃ s : ByteArray, e = .returned (.string s) ∧ s.data.toList = dec N ∧ Q w w' := by
 obtain ⟨A, c, rfl, hc⟩ := hx.parts;obtain ⟨L, hL⟩ : ∃ L, dg W64 N = L := ⟨_, rfl⟩
 have hlen := aBq (N := N);rw [hL] at hc hx hlen ⊢;rcases Nat.eq_zero_or_pos N with h0 | h0
 ·have hL0 : L = 0 := (by rw [← hL, h0, aQ]);have k1 : ((L : Int) == 0) = true := (by rw [hL0]; rfl);go_enter Tryz.func87, Tryz.ntmps87
  go_wp2_with fail
  go_ret
  exact ⟨_, rfl, by rw [h0, bE (by decide)]; rfl, Q.refl _⟩
 ·have hL0 : L ≠ 0 := fun h => (by rw [h] at hL; have := aW aB hL; omega);have k1 : ((L : Int) == 0) = false := beq_eq_false_iff_ne.2 (by omega);have HL := Lib.hid hL;rw [hL] at hN;clear hL;go_enter Tryz.func87, Tryz.ntmps87
  go_wp2_with fail
  refine (aBp _ N _ hx (by rw [HL.out]; exact hN)).mono ?_;rintro e w1 ⟨uv, n, rfl, hu, hq1, hn, hb⟩;rw [HL.out] at hb;have HB := Lib.hid hb; clear hb;have hform : ∃ A c, uv = .slice A n c := (by obtain ⟨A, c, h, _⟩ := hu; exact ⟨A, c, h⟩);obtain ⟨Au, cu, rfl⟩ := hform;go_wp2_with fail
  refine (vO n _ _ _ [] N 0 w1.heap.size 0 _ (Own.nil _ _) (hx.q hq1) (fun w'' h => hu.q h) rfl (Or.inl rfl) (Or.inl rfl) hn (by rw [uA h0]; simp only [List.length_nil]; omega) (by have := HB.out; rw [HL.out]; omega) (Nat.le_refl _)).mono ?_;rintro e w2 ⟨v, rfl, hv, hog⟩;rw [List.nil_append, uA h0] at hv;obtain ⟨g, cap, rfl, hcv⟩ := aDC hv (aAr N);have hq2 : Q w w2 := Q.grown hq1 hog.gr (fun k e => by cases e);clear hv hog;generalize (dec N).length = dl at *
  go_wp2_with fail
  go_ret
  exact ⟨_, rfl, rfl, hq2⟩
end Go.Proofs.YtgpacgadpnpjjaaGreatDoor
