/- ValueRounds: for every string and every int the law holds: Down, Up, Floor and Ceil of the number that the string is are what the document says, or nothing if it is none. No condition.. Part of the proof: texts Ka1 Ka4 Ka6 Ve7 Kb2 Kc2 Kd3 Ke2 Kg1. -/
import Derived.Below
import Derived.BigQuiet
import Derived.Deep.Cut
import Derived.Deep.CutBlock
import Derived.Deep.DeepFit
import Derived.Deep.DeepMust
import Derived.Deep.Draws
import Derived.Deep.LoopGhost
import Derived.Deep.OwnRows
import Derived.Deep.QuietTactic
import Derived.Deep.RegionHeld
import Derived.Deep.RegionHeld3
import Derived.Deep.RegionWith
import Derived.IntWalk
import Derived.Laws.AppendOwn
import Derived.Laws.BitsAllLaws
import Derived.Laws.CopyOwn
import Derived.Laws.IdiomStrings
import Derived.Laws.OwnMore
import Derived.Laws.RangeAny
import Derived.Laws.RangeString
import Derived.Laws.Rows
import Derived.Lib.Hide
import Derived.Lib.IndexBytes
import Derived.Lib.IndexLaws
import Derived.Lib.OthersKept
import Derived.Lib.SliceRun
import Derived.Maps.AppendAt
import Derived.OwnWalk
import Derived.Shelf.Bits.Mul64
import Derived.Shelf.Lays7
import Derived.Shelf.Small.Bits
import Derived.Shelf.Small.Strs
import Derived.Shelf.Small.Utf8
import Derived.Shelf.Small.Wraps
import Derived.Shelf.Spec.BitsCarry
import Derived.Shelf.Spec.TrailingZeros
import Derived.Shelf.Strconv.Itoa0
import Derived.Shelf.Strings.Builder1
import Derived.Shelf.Strings.Builder2
import Derived.Shelf.Strings.Builder2Cap
import Derived.Shelf.Strings.BuilderF
import Derived.Shelf.Strings.BuilderK
import Derived.Shelf.Strings.Cut
import Derived.Shelf.Strings.Prefix
import Derived.Shelf.Strings.Repeat
import Derived.Shelf.Strings.Search1
import Derived.Shelf.Strings.Search2
import Derived.Shelf.Strings.Search3
import Derived.Shelf.Strings.Trim
import Derived.Shelf.Unicode.DecodeSlow
import Derived.StillTailTactics
import Derived.Test.YtgpacgadpnpjjaaGreatDoorProg
import Derived.Test.YtgpacgadpnpjjaaGreatDoorQp01
import Derived.Test.YtgpacgadpnpjjaaGreatDoorQp02
import Derived.Test.YtgpacgadpnpjjaaGreatDoorQp03
import Derived.Test.YtgpacgadpnpjjaaGreatDoorQp04
import Derived.Test.YtgpacgadpnpjjaaGreatDoorQp05
import Derived.Test.YtgpacgadpnpjjaaGreatDoorQp06
import Derived.Test.YtgpacgadpnpjjaaGreatDoorQp07
import Derived.Test.YtgpacgadpnpjjaaGreatDoorQp08
import Derived.Test.YtgpacgadpnpjjaaGreatDoorQp09
import Derived.Test.YtgpacgadpnpjjaaGreatDoorQp10
import Derived.Test.YtgpacgadpnpjjaaGreatDoorQp11
import Derived.Test.YtgpacgadpnpjjaaGreatDoorQp12
import Derived.Test.YtgpacgadpnpjjaaGreatDoorQp13
import Derived.Test.YtgpacgadpnpjjaaGreatDoorQp14
import Derived.Test.YtgpacgadpnpjjaaGreatDoorQp15
import Derived.Test.YtgpacgadpnpjjaaGreatDoorQp16
import Derived.Test.YtgpacgadpnpjjaaGreatDoorQp17
import Derived.Test.YtgpacgadpnpjjaaGreatDoorQp18
import Derived.Test.YtgpacgadpnpjjaaGreatDoorQp19
import Derived.Test.YtgpacgadpnpjjaaGreatDoorQp20
import Derived.Test.YtgpacgadpnpjjaaGreatDoorQp21
import Derived.Test.YtgpacgadpnpjjaaGreatDoorQp22
import Derived.Test.YtgpacgadpnpjjaaGreatDoorQp23
import Derived.Test.YtgpacgadpnpjjaaGreatDoorQp24
import Derived.Test.YtgpacgadpnpjjaaGreatDoorQp25
import Derived.Test.YtgpacgadpnpjjaaGreatDoorQp27
import Derived.WalkKit
import Derived.WalkLawsBesides
import Derived.WalkSmall
import Derived.WalkSpells
import Derived.Test.YtgpacgadpnpjjaaGreatDoorQr01
set_option maxHeartbeats 4000000
namespace Go.Proofs.YtgpacgadpnpjjaaGreatDoor.K
open Go.RowKit
open Ma Me
section
variable {w w' a : World} {g k i : Nat} {t : TypeId} {row l : List Value} {x : Value}
end
section
variable {w w' : World} {A : Option Addr} {ds : List Nat} {g N : Nat} {v : Value}
end
def pT3 (a b c : Pr) : Pr := ⟨fun v w => ∃ x y z, v = .tuple #[x, y, z] ∧ a.p x w ∧ b.p y w ∧ c.p z w, fun ⟨x, y, z, e, h1, h2, h3⟩ hq => ⟨x, y, z, e, a.q h1 hq, b.q h2 hq, c.q h3 hq⟩, a.ok && b.ok && c.ok, fun ho ⟨x, y, z, e, h1, h2, h3⟩ hq => by
 simp only [Bool.and_eq_true] at ho;exact ⟨x, y, z, e, a.a ho.1.1 h1 hq, b.a ho.1.2 h2 hq, c.a ho.2 h3 hq⟩⟩
section
variable {P : Program} {ops : Array Oper} {Q' : Exit → Act → World → Prop} {l : List Vs} {F : (Nat → Value) → Act} {a : Act} {w1 : World}
end
section
variable {w w' a : World} {g g2 : Nat} {t : TypeId} {ck : List Ck} {v u old : Value}
end
section
variable {P : Program} {ops : Array Oper} {Q' : Exit → Act → World → Prop} {l : List Vs} {cs : List Ce} {ks : List (Value × Vs)} {F : (Nat → Value) → Act} {a : Act} {w0 : World} {L : Nat → Bool} {vals : Nat → Value} {W : World}
open Ja (upd)
end
section
variable {ops : Array Oper} {l : List Vs} {cs : List Ce} {ks : List (Value × Vs)} {w0 : World} {L : Nat → Bool} {vals : Nat → Value} {W : World}
end
end Go.Proofs.YtgpacgadpnpjjaaGreatDoor.K
namespace Go.Proofs.YtgpacgadpnpjjaaGreatDoor.K
open Go.RowKit
open Ma Me
section
variable {P : Program} {ops : Array Oper} {l : List Vs} {cs : List Ce} {ks : List (Value × Vs)} {F : (Nat → Value) → Act} {a : Act} {w0 : World} {i : Nat} {o : Oper} {rest : List Oper} {v : Value}
theorem JC.kp (n : Nat) (p : Vs) (hn : ks[n]? = some (v, p)) (hl : l.getD i .any = p) (c : Ctx ops a F) (hr : Ja.Steps P ops (JC w0 ops l cs ks) F (i + 1) rest)
  (hck : bM ops cs = true := by kernel_rfl) (ho : ops[i]? = some o := by rfl) (hg : bF ops l o true = true := by kernel_rfl) (hf : (cs.all fun c => c.al != some i && c.st != i) = true := by kernel_rfl)
  (hrun : ∀ vals w, (execOp (F (iX l o vals)).eval o).run P w = .ok (.value v) w := by intro vals w; kernel_rfl) :
  Ja.Steps P ops (JC w0 ops l cs ks) F i (o :: rest) :=
 JC.o c (fun L vals w _ hJ hd K hK => by
  have h := hrun vals w;rw [iK hd] at h;unfold Oper.wp;rw [h, Oper.upon_value];exact hK.out v w _ rfl (by unfold SL; rw [hl]; exact hJ.k _ (List.mem_of_getElem? hn)) (Q.refl _)) hr hck ho hg hf
end
section
variable {ops : Array Oper} {l : List Vs} {cs : List Ce} {ks : List (Value × Vs)} {F : (Nat → Value) → Act} {a : Act} {w0 : World} {i : Nat} {o : Oper} {rest : List Oper}
end
end Go.Proofs.YtgpacgadpnpjjaaGreatDoor.K
namespace Go.Proofs.YtgpacgadpnpjjaaGreatDoor.K
open Go.RowKit
open Ma Me
section
variable {P : Program} {ops : Array Oper} {Q' : Exit → Act → World → Prop} {F : (Nat → Value) → Act} {a : Act} {w : World}
end
theorem bA {w0 w : World} {g : Nat} {t : TypeId} {s : Int} {A1 A2 : Option Addr} {k1 c1 k2 c2 : Nat} (h : Bx w g t [.int .i64 s, .slice A1 k1 c1, .slice A2 k2 c2]) (hg : w0.heap.size ≤ g) {P : Prop} : P → w0.heap.size ≤ g ∧ NbV w g t [.i, .s, .s] (.agg #[.int .i64 s, .slice A1 k1 c1, .slice A2 k2 c2]) :=
 fun _ => ⟨hg, _, rfl, ⟨⟨_, rfl⟩, ⟨_, _, _, rfl⟩, ⟨_, _, _, rfl⟩, trivial⟩, h⟩
theorem bQ {fn : Func} {R : Ending → World → Prop} {a : Act} {w : World} {g : Nat} {t T : TypeId} {c : Nat} {v0 v1 v2 : Value} (hb : Bx w g t [v0, v1, v2]) (hR : R (.returned (.agg #[v0, v1, v2])) w)
  (hres : fn.results = #[.cell c T] := by rfl) (hslot : a.tmps.getD c undef = .pointer (some ⟨g, 0, none⟩) := by kernel_rfl) (hT : ∀ w, Sem.run Tryz.prog (isAgg T) w = .ok true w := by intro _; kernel_rfl) (hS : ∀ w, Sem.run Tryz.prog (sizeOf T) w = .ok 3 w := by intro _; kernel_rfl)
  (hd : a.defers = [] := by rfl) : bodyPost Tryz.prog fn R .ret a w := by
 have h0 := hb.cell 0 rfl;have h1 := hb.cell 1 rfl;have h2 := hb.cell 2 rfl;refine bodyPost_ret (v := .agg #[v0, v1, v2]) ?_ hd hR;unfold results;rw [hres];rw [Array.getD_eq_getD_getElem?] at hslot;simp [go_sem, hslot, hT, hS, loadVar, loadCells, loadCellsFrom, Addr.add, h0, h1, h2]
end Go.Proofs.YtgpacgadpnpjjaaGreatDoor.K
namespace Go.Proofs.YtgpacgadpnpjjaaGreatDoor
open Go.RowKit
open Ma Me
theorem aFX (p : Rat) (away : Bool) : bD p away = sg (decide (p < 0)) (bN p away) := by
 unfold bD sg;by_cases h : p < 0
 ·rw [if_pos h, if_pos (decide_eq_true h)]
 ·rw [if_neg h, if_neg (by rw [decide_eq_false h]; decide)]
theorem dR {p : Rat} {away : Bool} (h : away = false ∨ p.num.natAbs % p.den = 0) : bN p away = p.num.natAbs / p.den := by
 unfold bN;have hc : ¬ (away = true ∧ ¬ p.num.natAbs % p.den = 0) := by
  rintro ⟨h1, h2⟩;rcases h with h | h
  ·rw [h] at h1; cases h1
  ·exact h2 h
 rw [if_neg hc, Nat.add_zero]
theorem wE {p : Rat} (h : ¬ p.num.natAbs % p.den = 0) : bN p true = p.num.natAbs / p.den + 1 := by
 unfold bN;rw [if_pos ⟨rfl, h⟩]
set_option maxRecDepth 100000 in
theorem aGg (x : Value) (p : Rat) (z : Int) (w : World) (hT : Tb w) (hx : Nq w x p) (hB : 2000 * sz p + 500000 ≤ LIM) : Calls Tryz.prog 26 #[x, .int .i64 z] w fun e w' => ∃ r, e = .returned r ∧ Nq w' r (up (iV z) p) ∧ Q w w' := by
 obtain ⟨s1, A1, n1, c1, A2, n2, c2, rfl, E1, Z1, O1, hxt, hxb⟩ := hx.form;obtain ⟨w0, hW, hG0, hX0, hR0⟩ := vQ w s1 (.slice A1 n1 c1) (.slice A2 n2 c2);have he0 : s1 = decide (p < 0) := E1.out.trans (decide_eq_decide.2 (bG p));have HE := Lib.hid he0; clear he0;have HB := Lib.hid hB; clear hB;obtain ⟨x0, x1, x2⟩ := hX0.cells;go_enter Tryz.func26, Tryz.ntmps26
 go_wp2_with fail
 clear hW;refine (aCw _ p z (!s1) _ (hT.q hG0) (hx.q hG0) HB.out).mono ?_;rintro e w1 ⟨r, rfl, hv, hq1⟩;have hG1 := hG0.trans hq1;have hX1 := hX0.q hq1;have hR1 := hR0.q hq1;clear x0 x1 x2;have fz := hR1.frozen;obtain ⟨r0, r1, r2⟩ := hR1.cells;rw [HE.out, aF4] at hv;obtain ⟨s6, B1, m1, d1, B2, m2, d2, rfl, -⟩ := hv.form;go_wp2_with fail
 obtain ⟨z0, z1, z2, hvF, hqF⟩ := Nq.store hR1 hv hG1 (Nat.le_add_right _ _);unfold put3 at z0 z1 z2 hvF hqF;refine bodyPost_ret (v := .agg #[.bool s6, .slice B1 m1 d1, .slice B2 m2 d2]) (by simp [results, Tryz.results26, go_sem, z0, z1, z2]) rfl ?_;exact ⟨_, rfl, hvF, hqF⟩
set_option maxRecDepth 100000 in
theorem eP (x : Value) (p : Rat) (away : Bool) (w : World) (_ : Tb w) (hx : Nq w x p) (hB : 8 * sz p + 200 ≤ LIM) : Calls Tryz.prog 111 #[x, .bool away] w fun e w' => ∃ r, e = .returned r ∧ Nq w' r ((bD p away : Int) : Rat) ∧ Q w w' := by
 obtain ⟨s1, A1, n1, c1, A2, n2, c2, rfl, E1, Z1, O1, hxt, hxb⟩ := hx.form;obtain ⟨w0, hW, hG0, hX0, hR0⟩ := vQ w s1 (.slice A1 n1 c1) (.slice A2 n2 c2);have hs := fO p;have hD0 := p.den_pos;rw [aA] at hB;have b1 : 4 * (dg W64 p.num.natAbs + dg W64 p.den) + 60 ≤ LIM := by rw [aA]; omega
 have b2 : dg W64 (p.num.natAbs / p.den) + 1 ≤ LIM := by have := fV aB (Nat.div_le_self p.num.natAbs p.den); rw [aA]; omega
 have b11 : dg W64 1 + 1 ≤ LIM := by rw [bZ aB, aA]; omega
 have HN := Lib.hid (aFX p away);have he0 : s1 = decide (p < 0) := E1.out.trans (decide_eq_decide.2 (bG p));have HE := Lib.hid he0; clear he0;clear hs hB;go_enter Tryz.func111, Tryz.ntmps111
 obtain ⟨x0, x1, x2⟩ := hX0.cells;go_wp2_with fail
 clear hW;clear x0 x1 x2;obtain ⟨x0, x1, x2⟩ := hX0.cells
 go_region_held3 (fun W => W.cell? ⟨w.heap.size, 0, none⟩ = some (.bool s1) ∧ W.cell? ⟨w.heap.size, 1, none⟩ = some (.slice A1 n1 c1) ∧ W.cell? ⟨w.heap.size, 2, none⟩ = some (.slice A2 n2 c2)) (first | exact ⟨x0, x1, x2⟩ | exact ⟨by assumption, by assumption, by assumption⟩ | go_keep) (first
  | (go_at_call 176; (with_reducible refine (mH p.num.natAbs p.den _ _ _ (hxt.q hG1) hu1 hD0 b1).mono ?_); rintro e w2 ⟨t2, t3, rfl, ht2, ht3, hq2, -, -⟩; have hG2 := hG1.trans hq2; have hX2 := hX1.q hq2; have hR2 := hR1.q hq2; obtain ⟨x0, x1, x2⟩ := hX2.cells; obtain ⟨A7, n7, c7, rfl⟩ := ht2.form; obtain ⟨A8, c8, rfl, -⟩ := ht3.parts; obtain ⟨L, hL⟩ : ∃ L, dg W64 (p.num.natAbs % p.den) = L := ⟨_, rfl⟩; rw [hL]; have HL := Lib.hid hL; clear hL)
  | (go_at_call 135; (with_reducible refine (eU _ p _ (hx.q hG0.drew)).mono ?_); rintro e w1 ⟨u1, rfl, hu1, hq1d⟩; have hq1 : Q w0 w1 := (Q.refl w0).drew.trans hq1d; have hG1 := hG0.trans hq1; have hX1 := hX0.q hq1; have hR1 := hR0.q hq1; obtain ⟨x0, x1, x2⟩ := hX1.cells; obtain ⟨A5, n5, c5, rfl⟩ := hu1.form))
 all_goals
  have hzz := tJ (D := p.num.natAbs % p.den);rw [HL.out] at hzz;by_cases hr0 : p.num.natAbs % p.den = 0
  ·have hL0 : L = 0 := hzz.2 hr0;have HR0 := Lib.hid hr0; clear hr0;subst hL0;clear hzz;cases away
   ·obtain ⟨x0, x1, x2⟩ := hX2.cells;have fz := hR2.frozen;obtain ⟨r0, r1, r2⟩ := hR2.cells;go_wp2_with fail
    refine (fZ s1 _ (p.num.natAbs / p.den) _ ht2).mono ?_;rintro e w3 ⟨v5, rfl, hv5, hq3⟩;have hG3 := hG2.trans hq3;have hX3 := hX2.q hq3;have hR3 := hR2.q hq3;clear x0 x1 x2 fz r0 r1 r2;have fz := hR3.frozen;obtain ⟨r0, r1, r2⟩ := hR3.cells;obtain ⟨B1, d1, B2, d2, rfl, -, -⟩ := hv5.form;have hv := Nq.int (q := ((bD p false : Int) : Rat)) hv5 (by rw [Rat.num_intCast, HN.out, HE.out, dR (.inr HR0.out)]) (Rat.den_intCast _);generalize (decide (0 < p.num.natAbs / p.den) && s1) = s4 at *
    generalize dg W64 (p.num.natAbs / p.den) = m1 at *
    generalize dg W64 0 = m2 at *
    go_wp2_with fail
    obtain ⟨z0, z1, z2, hvF, hqF⟩ := Nq.store hR3 hv hG3 (Nat.le_add_right _ _);unfold put3 at z0 z1 z2 hvF hqF;refine bodyPost_ret (v := .agg #[.bool s4, .slice B1 m1 d1, .slice B2 m2 d2]) (by simp [results, Tryz.results111, go_sem, z0, z1, z2]) rfl ?_;exact ⟨_, rfl, hvF, hqF⟩
   ·obtain ⟨x0, x1, x2⟩ := hX2.cells;have fz := hR2.frozen;obtain ⟨r0, r1, r2⟩ := hR2.cells;go_wp2_with fail
    refine (fZ s1 _ (p.num.natAbs / p.den) _ ht2).mono ?_;rintro e w3 ⟨v5, rfl, hv5, hq3⟩;have hG3 := hG2.trans hq3;have hX3 := hX2.q hq3;have hR3 := hR2.q hq3;clear x0 x1 x2 fz r0 r1 r2;have fz := hR3.frozen;obtain ⟨r0, r1, r2⟩ := hR3.cells;obtain ⟨B1, d1, B2, d2, rfl, -, -⟩ := hv5.form;have hv := Nq.int (q := ((bD p true : Int) : Rat)) hv5 (by rw [Rat.num_intCast, HN.out, HE.out, dR (.inr HR0.out)]) (Rat.den_intCast _);generalize (decide (0 < p.num.natAbs / p.den) && s1) = s4 at *
    generalize dg W64 (p.num.natAbs / p.den) = m1 at *
    generalize dg W64 0 = m2 at *
    go_wp2_with fail
    obtain ⟨z0, z1, z2, hvF, hqF⟩ := Nq.store hR3 hv hG3 (Nat.le_add_right _ _);unfold put3 at z0 z1 z2 hvF hqF;refine bodyPost_ret (v := .agg #[.bool s4, .slice B1 m1 d1, .slice B2 m2 d2]) (by simp [results, Tryz.results111, go_sem, z0, z1, z2]) rfl ?_;exact ⟨_, rfl, hvF, hqF⟩
  ·have hL0 : 0 < L := Nat.pos_of_ne_zero (fun h => hr0 (hzz.1 h));have hL1 : (0 : Int) < (L : Int) := (by omega);have hL2 : decide (0 < L) = true := decide_eq_true hL0;have HR0 := Lib.hid hr0; clear hr0;clear hzz;cases away
   ·obtain ⟨x0, x1, x2⟩ := hX2.cells;have fz := hR2.frozen;obtain ⟨r0, r1, r2⟩ := hR2.cells;go_wp2_with fail
    refine (fZ s1 _ (p.num.natAbs / p.den) _ ht2).mono ?_;rintro e w3 ⟨v5, rfl, hv5, hq3⟩;have hG3 := hG2.trans hq3;have hX3 := hX2.q hq3;have hR3 := hR2.q hq3;clear x0 x1 x2 fz r0 r1 r2;have fz := hR3.frozen;obtain ⟨r0, r1, r2⟩ := hR3.cells;obtain ⟨B1, d1, B2, d2, rfl, -, -⟩ := hv5.form;have hv := Nq.int (q := ((bD p false : Int) : Rat)) hv5 (by rw [Rat.num_intCast, HN.out, HE.out, dR (.inl rfl)]) (Rat.den_intCast _);generalize (decide (0 < p.num.natAbs / p.den) && s1) = s4 at *
    generalize dg W64 (p.num.natAbs / p.den) = m1 at *
    generalize dg W64 0 = m2 at *
    go_wp2_with fail
    obtain ⟨z0, z1, z2, hvF, hqF⟩ := Nq.store hR3 hv hG3 (Nat.le_add_right _ _);unfold put3 at z0 z1 z2 hvF hqF;refine bodyPost_ret (v := .agg #[.bool s4, .slice B1 m1 d1, .slice B2 m2 d2]) (by simp [results, Tryz.results111, go_sem, z0, z1, z2]) rfl ?_;exact ⟨_, rfl, hvF, hqF⟩
   ·go_wp2_with fail
    refine (fB 1 1 _ rfl (by decide)).mono ?_;rintro e w3 ⟨t8, rfl, ht8, hq3, -⟩;have hG3 := hG2.trans hq3;have hX3 := hX2.q hq3;have hR3 := hR2.q hq3;obtain ⟨A9, n9, c9, rfl⟩ := ht8.form;go_wp2_with fail
    refine (qH _ _ (p.num.natAbs / p.den) 1 _ (ht2.q hq3) ht8 b2 b11).mono ?_;rintro e w4 ⟨t9, rfl, ht9, hq4, -⟩;have hG4 := hG3.trans hq4;have hX4 := hX3.q hq4;have hR4 := hR3.q hq4;obtain ⟨A10, n10, c10, rfl⟩ := ht9.form;obtain ⟨x0, x1, x2⟩ := hX4.cells;have fz := hR4.frozen;obtain ⟨r0, r1, r2⟩ := hR4.cells;go_wp2_with fail
    refine (fZ s1 _ (p.num.natAbs / p.den + 1) _ ht9).mono ?_;rintro e w5 ⟨v5, rfl, hv5, hq5⟩;have hG5 := hG4.trans hq5;have hX5 := hX4.q hq5;have hR5 := hR4.q hq5;clear x0 x1 x2 fz r0 r1 r2;have fz := hR5.frozen;obtain ⟨r0, r1, r2⟩ := hR5.cells;obtain ⟨B1, d1, B2, d2, rfl, -, -⟩ := hv5.form;have hv := Nq.int (q := ((bD p true : Int) : Rat)) hv5 (by rw [Rat.num_intCast, HN.out, HE.out, wE HR0.out]) (Rat.den_intCast _);generalize (decide (0 < p.num.natAbs / p.den + 1) && s1) = s4 at *
    generalize dg W64 (p.num.natAbs / p.den + 1) = m1 at *
    generalize dg W64 0 = m2 at *
    go_wp2_with fail
    obtain ⟨z0, z1, z2, hvF, hqF⟩ := Nq.store hR5 hv hG5 (Nat.le_add_right _ _);unfold put3 at z0 z1 z2 hvF hqF;refine bodyPost_ret (v := .agg #[.bool s4, .slice B1 m1 d1, .slice B2 m2 d2]) (by simp [results, Tryz.results111, go_sem, z0, z1, z2]) rfl ?_;exact ⟨_, rfl, hvF, hqF⟩
set_option maxRecDepth 100000 in
theorem aFY (x : Value) (p : Rat) (w : World) (hT : Tb w) (hx : Nq w x p) (hB : 8 * sz p + 200 ≤ LIM) : Calls Tryz.prog 28 #[x] w fun e w' => ∃ r, e = .returned r ∧ Nq w' r ((p.floor : Int) : Rat) ∧ Q w w' := by
 obtain ⟨s1, A1, n1, c1, A2, n2, c2, rfl, E1, Z1, O1, hxt, hxb⟩ := hx.form;obtain ⟨w0, hW, hG0, hX0, hR0⟩ := vQ w s1 (.slice A1 n1 c1) (.slice A2 n2 c2);have he0 : s1 = decide (p < 0) := E1.out.trans (decide_eq_decide.2 (bG p));have HE := Lib.hid he0; clear he0;have HB := Lib.hid hB; clear hB;obtain ⟨x0, x1, x2⟩ := hX0.cells;go_enter Tryz.func28, Tryz.ntmps28
 go_wp2_with fail
 clear hW;refine (eP _ p s1 _ (hT.q hG0) (hx.q hG0) HB.out).mono ?_;rintro e w1 ⟨r, rfl, hv, hq1⟩;have hG1 := hG0.trans hq1;have hX1 := hX0.q hq1;have hR1 := hR0.q hq1;clear x0 x1 x2;have fz := hR1.frozen;obtain ⟨r0, r1, r2⟩ := hR1.cells;rw [HE.out, oN] at hv;obtain ⟨s6, B1, m1, d1, B2, m2, d2, rfl, -⟩ := hv.form;go_wp2_with fail
 obtain ⟨z0, z1, z2, hvF, hqF⟩ := Nq.store hR1 hv hG1 (Nat.le_add_right _ _);unfold put3 at z0 z1 z2 hvF hqF;refine bodyPost_ret (v := .agg #[.bool s6, .slice B1 m1 d1, .slice B2 m2 d2]) (by simp [results, Tryz.results28, go_sem, z0, z1, z2]) rfl ?_;exact ⟨_, rfl, hvF, hqF⟩
set_option maxRecDepth 100000 in
theorem aF5 (x : Value) (p : Rat) (w : World) (hT : Tb w) (hx : Nq w x p) (hB : 8 * sz p + 200 ≤ LIM) : Calls Tryz.prog 30 #[x] w fun e w' => ∃ r, e = .returned r ∧ Nq w' r ((-(-p).floor : Int) : Rat) ∧ Q w w' := by
 obtain ⟨s1, A1, n1, c1, A2, n2, c2, rfl, E1, Z1, O1, hxt, hxb⟩ := hx.form;obtain ⟨w0, hW, hG0, hX0, hR0⟩ := vQ w s1 (.slice A1 n1 c1) (.slice A2 n2 c2);have he0 : s1 = decide (p < 0) := E1.out.trans (decide_eq_decide.2 (bG p));have HE := Lib.hid he0; clear he0;have HB := Lib.hid hB; clear hB;obtain ⟨x0, x1, x2⟩ := hX0.cells;go_enter Tryz.func30, Tryz.ntmps30
 go_wp2_with fail
 clear hW;refine (eP _ p (!s1) _ (hT.q hG0) (hx.q hG0) HB.out).mono ?_;rintro e w1 ⟨r, rfl, hv, hq1⟩;have hG1 := hG0.trans hq1;have hX1 := hX0.q hq1;have hR1 := hR0.q hq1;clear x0 x1 x2;have fz := hR1.frozen;obtain ⟨r0, r1, r2⟩ := hR1.cells;rw [HE.out, sM] at hv;obtain ⟨s6, B1, m1, d1, B2, m2, d2, rfl, -⟩ := hv.form;go_wp2_with fail
 obtain ⟨z0, z1, z2, hvF, hqF⟩ := Nq.store hR1 hv hG1 (Nat.le_add_right _ _);unfold put3 at z0 z1 z2 hvF hqF;refine bodyPost_ret (v := .agg #[.bool s6, .slice B1 m1 d1, .slice B2 m2 d2]) (by simp [results, Tryz.results30, go_sem, z0, z1, z2]) rfl ?_;exact ⟨_, rfl, hvF, hqF⟩
end Go.Proofs.YtgpacgadpnpjjaaGreatDoor
namespace Go.Proofs.YtgpacgadpnpjjaaGreatDoor.K
open Go.RowKit
open Ma Me
theorem qM : dg B30 1 ≤ 1 := by rw [bZ aF]; exact Nat.le_refl _
theorem aGb (M N : Nat) : dg B30 (M + N) ≤ dg B30 M + dg B30 N + 1 := by
 have := lH aF M N;omega
theorem aGc {z : Int} (h : -1 ≤ z ∧ z ≤ 1) : IntKind.i64.wrap z = z := by
 unfold IntKind.wrap;obtain ⟨h1, h2⟩ := h;have : z = -1 ∨ z = 0 ∨ z = 1 := by omega
 rcases this with rfl | rfl | rfl <;> rfl
theorem aFV (q : Rat) : -1 ≤ sn q ∧ sn q ≤ 1 := by rcases dF q with ⟨_, h⟩ | ⟨_, h⟩ | ⟨_, h⟩ <;> rw [h] <;> decide
theorem sn3 (q : Rat) : sn q = -1 ∨ sn q = 0 ∨ sn q = 1 := by rcases dF q with ⟨_, h⟩ | ⟨_, h⟩ | ⟨_, h⟩ <;> simp [h]
theorem aFZ (p q : Rat) : -1 ≤ sn p * sn q ∧ sn p * sn q ≤ 1 := by rw [← aF3]; exact aFV _
theorem aF6 (q : Rat) : (q.num : Int) = sn q * (q.num.natAbs : Int) := by
 rw [uF]; exact (Int.sign_mul_natAbs _).symm
theorem aF7 (q : Rat) : q * ((q.den : Nat) : Rat) = ((sn q : Int) : Rat) * ((q.num.natAbs : Nat) : Rat) := by
 rw [← rF];have h := aF6 q;have h2 : ((q.num : Int) : Rat) = ((sn q * (q.num.natAbs : Int) : Int) : Rat) := by rw [← h]
 rw [h2, Rat.intCast_mul]; rfl
theorem sN (a b : Nat) : ((a * b : Nat) : Rat) = (a : Rat) * (b : Rat) := Rat.natCast_mul a b
theorem lN {M N : Nat} : cmp M N < 0 ↔ M < N := by
 rcases Nat.lt_trichotomy M N with h | h | h
 ·have := fQ h; omega
 ·subst h; have := cmp_eq M; omega
 ·have := gT h; omega
set_option maxRecDepth 100000 in
theorem eZ (x : Value) (p : Rat) (w : World) (hx : Rq w x p) : Calls Tryz.prog 110 #[x] w fun e w' => ∃ r, e = .returned r ∧ Rq w' r (-p) ∧ Q w w' := by
 obtain ⟨A1, n1, c1, A2, n2, c2, rfl, h1, h2⟩ := hx;obtain ⟨W, hW, hG0, hX0, hR0⟩ := aE6 w 32 [.int .i64 (sn p), .slice A1 n1 c1, .slice A2 n2 c2] 32 [.int .i64 0, .slice none 0 0, .slice none 0 0];have x0 := hX0.cell 0 rfl;have x1 := hX0.cell 1 rfl;have x2 := hX0.cell 2 rfl;have fz := hR0.frozen;have r0 := hR0.cell 0 rfl;have r1 := hR0.cell 1 rfl;have r2 := hR0.cell 2 rfl;have hwr : IntKind.i64.wrap (-sn p) = -sn p := aGc (by first | exact aFZ p p | (have := aFV p; omega));go_enter Tryz.func110, Tryz.ntmps110
 go_wp2_with fail
 have hs9 := (wV p).1;have ht9 := (wV p).2.1;have hb9 := (wV p).2.2;have hz9 : -p ≠ 0 → p ≠ 0 := fun h e => h (by rw [e]; rfl);have hr9 : Rq W (.agg #[.int .i64 (-sn p), .slice A1 n1 c1, .slice A2 n2 c2]) (-p) := ⟨_, _, _, _, _, _, by rw [← hs9], by rw [← ht9]; exact h1.q hG0, fun h => by rw [← hb9]; exact (h2 (hz9 h)).q hG0⟩
 have hR9 := hR0.put (l := [.int .i64 (-sn p), .slice A1 n1 c1, .slice A2 n2 c2]) rfl;have hq9 := lX (g := w.heap.size + 1) (i := 0) (l := [.int .i64 (-sn p), .slice A1 n1 c1, .slice A2 n2 c2]) hG0 (Nat.le_succ _);have hr9 := hr9.ap (g := w.heap.size + 1) (w' := gJ W (w.heap.size + 1) 0 [.int .i64 (-sn p), .slice A1 n1 c1, .slice A2 n2 c2]) ⟨fun k hk => jE hk, kK, _, _, hR0, by decide, iN⟩;simp only [gJ, Nat.reduceAdd] at hR9 hq9 hr9;have z0 := hR9.cell 0 rfl;have z1 := hR9.cell 1 rfl;have z2 := hR9.cell 2 rfl;refine bodyPost_ret (v := .agg #[.int .i64 (-sn p), .slice A1 n1 c1, .slice A2 n2 c2]) (by simp [results, Tryz.results110, go_sem, z0, z1, z2]) rfl ?_;exact ⟨_, rfl, hr9, hq9⟩
set_option maxRecDepth 100000 in
theorem tN (a : ByteArray) (w : World) (hT : Tb w) (ha : a.size ≤ 9223372036854775806) :
  Calls Tryz.prog 19 #[.string a] w fun e w' => ∃ x y, e = .returned (.tuple #[x, y, .bool (decide ((aV a.data.toList).1 = 0))]) ∧ Nq w' x (aV a.data.toList).2 ∧ Rq w' y (aV a.data.toList).2 ∧ Q w w' := by
 obtain ⟨w0, hW, hG0, hP0, hR0⟩ := aE6 w 25 [.bool false, .slice none 0 0, .slice none 0 0] 32 [.int .i64 0, .slice none 0 0, .slice none 0 0];go_enter Tryz.func19, Tryz.ntmps19
 go_upto_region 1 with fail
 clear hW;obtain ⟨ca, Hca⟩ : ∃ z : Int, Hid ((aV a.data.toList).1 = z) := ⟨_, Lib.hid rfl⟩
 obtain ⟨p, Hp⟩ : ∃ z : Rat, Hid ((aV a.data.toList).2 = z) := ⟨_, Lib.hid rfl⟩
 have hz0 := hR0.lt;have hAt0 : At0 w0 [⟨some 5, 0, 25, [.b, .s, .s], .agg #[.bool false, .slice none 0 0, .slice none 0 0], 6, 3⟩] [] w0 := At0.of (Q.refl _) ⟨fun h => (by cases h), trivial⟩ (by simp [dO]) trivial;refine cK (F := ?F2) w0 ([.eq (.string (a)), .gen (pT2 (aN (p)) (pEq (.int .i64 (ca)))), .gen (pT2 (aN (p)) (pEq (.int .i64 (ca)))), .gen (aN (p)), .eq (.int .i64 (ca)), .any, .any, .eq (.int .i64 (ca))] : List Vs) _ _ (by kernel_rfl) hAt0 ?hF2 ?st2 ?en2
 case hF2 =>
  intro vals;simp only [Ja.fillL, Act.put, List.setIfInBounds_toArray, List.set_cons_zero, List.set_cons_succ, Nat.reduceAdd];exact rfl
 case st2 =>
  clear hAt0;intro hctx;refine JC.p hctx ?_;refine JC.ca (fun vals W hN hd hk => (vU a W (hT.q (hG0.trans hN)) ha).mono (by rintro e W9 ⟨r, rfl, hr, hq9⟩; exact ⟨(.tuple #[r, .int .i64 (aV a.data.toList).1]), rfl, ⟨_, _, rfl, (by have h7 := hr; rw [Hp.out] at h7; exact h7), congrArg (Value.int .i64) Hca.out⟩, hq9⟩)) hctx ?_;refine JC.m 1 hctx ?_;refine JC.o hctx ?_ ?_
  ·intro L vals W hL hJ hd K hK;have d2 : (pT2 (aN (p)) (pEq (.int .i64 (ca)))).p (vals 2) W := hd 2 (by kernel_rfl);generalize vals 2 = u2 at d2 hK ⊢;obtain ⟨e0, e1, rfl, he0, he1⟩ := d2;go_simp
   exact hK.out (e0) _ _ (by kernel_rfl) he0 (Q.refl _)
  refine JC.o hctx ?_ ?_
  ·intro L vals W hL hJ hd K hK;have d2 : (pT2 (aN (p)) (pEq (.int .i64 (ca)))).p (vals 2) W := hd 2 (by kernel_rfl);generalize vals 2 = u2 at d2 hK ⊢;obtain ⟨e0, e1, rfl, he0, he1⟩ := d2;obtain rfl : e1 = .int .i64 (ca) := he1;go_simp
   exact hK.out (.int .i64 (ca)) _ _ (by kernel_rfl) rfl (Q.refl _)
  refine Ja.Steps.cons (JC.alloc (n := 0) (cells := [.bool false, .slice none 0 0, .slice none 0 0].toArray) (t := 25) hctx (by kernel_rfl) (by rfl) (by kernel_rfl) (by rfl) (by rfl) (by kernel_rfl) (by rfl) (fun W => NbV.mk (t := 25) (ck := [.b, .s, .s]) (row := [.bool false, .slice none 0 0, .slice none 0 0]) ⟨⟨_, rfl⟩, ⟨_, _, _, rfl⟩, ⟨_, _, _, rfl⟩, trivial⟩ (Bx.new W _ _)) ?_) ?_
  ·intro vals W K hK;go_simp
   exact hK.out _ (by kernel_rfl)
  refine JC.s3 (n := 0) rfl vV hctx ?_;refine JC.p hctx ?_;exact Ja.Steps.nil
 intro L vals w1 hall hJ;clear hAt0;have hq1 := hJ.q;have hG1 := hG0.trans hq1;have hz1 := hq1.size;have hP1 := hP0.q hq1;have hR1 := hR0.q hq1;clear hG0 hP0 hR0;obtain ⟨gX, eX, geX, qX⟩ := hJ.fresh 0 rfl rfl (hall 5 (by decide)) (hall 6 (by decide));obtain ⟨sX0, AX1, kX1, cX1, AX2, kX2, cX2, hX1, nX1⟩ := rR (g := gX) (t := 25) qX (show Nq w1 (vals 3) (p) from hJ.s 3 (hall 3 (by decide)));clear qX;rw [eX];clear eX;have f6 : vals 7 = .int .i64 (ca) := hJ.s 7 (hall 7 (by decide));rw [f6];clear f6;clear hall hJ;have hzX := hX1.lt;go_upto_region 2 with fail
 have hAt1 : At0 w1 [⟨some 5, 0, 32, [.i, .s, .s], .agg #[.int .i64 0, .slice none 0 0, .slice none 0 0], 6, 3⟩] [] w1 := At0.of (Q.refl _) ⟨fun h => (by cases h), trivial⟩ (by simp [dO]) trivial;refine cK (F := ?F3) w1 ([.eq (.string (a)), .gen (pT2 (pRn (p)) (pEq (.int .i64 (ca)))), .gen (pT2 (pRn (p)) (pEq (.int .i64 (ca)))), .gen (pRn (p)), .eq (.int .i64 (ca)), .any, .any, .eq (.int .i64 (ca))] : List Vs) _ _ (by kernel_rfl) hAt1 ?hF3 ?st3 ?en3
 case hF3 =>
  intro vals;simp only [Ja.fillL, Act.put, List.setIfInBounds_toArray, List.set_cons_zero, List.set_cons_succ, Nat.reduceAdd];exact rfl
 case st3 =>
  clear hAt1;intro hctx;refine JC.p hctx ?_;refine JC.ca (fun vals W hN hd hk => (aEC a W ha).mono (by rintro e W9 ⟨r, rfl, hr, hq9⟩; exact ⟨(.tuple #[r, .int .i64 ((aV a.data.toList).1)]), rfl, ⟨_, _, rfl, (by have h7 := hr; rw [Hp.out] at h7; exact h7), congrArg (Value.int .i64) Hca.out⟩, hq9⟩)) hctx ?_;refine JC.m 1 hctx ?_;refine JC.o hctx ?_ ?_
  ·intro L vals W hL hJ hd K hK;have d2 : (pT2 (pRn (p)) (pEq (.int .i64 (ca)))).p (vals 2) W := hd 2 (by kernel_rfl);generalize vals 2 = u2 at d2 hK ⊢;obtain ⟨e0, e1, rfl, he0, he1⟩ := d2;go_simp
   exact hK.out (e0) _ _ (by kernel_rfl) he0 (Q.refl _)
  refine JC.o hctx ?_ ?_
  ·intro L vals W hL hJ hd K hK;have d2 : (pT2 (pRn (p)) (pEq (.int .i64 (ca)))).p (vals 2) W := hd 2 (by kernel_rfl);generalize vals 2 = u2 at d2 hK ⊢;obtain ⟨e0, e1, rfl, he0, he1⟩ := d2;obtain rfl : e1 = .int .i64 (ca) := he1;go_simp
   exact hK.out (.int .i64 (ca)) _ _ (by kernel_rfl) rfl (Q.refl _)
  refine Ja.Steps.cons (JC.alloc (n := 0) (cells := [.int .i64 0, .slice none 0 0, .slice none 0 0].toArray) (t := 32) hctx (by kernel_rfl) (by rfl) (by kernel_rfl) (by rfl) (by rfl) (by kernel_rfl) (by rfl) (fun W => NbV.mk (t := 32) (ck := [.i, .s, .s]) (row := [.int .i64 0, .slice none 0 0, .slice none 0 0]) ⟨⟨_, rfl⟩, ⟨_, _, _, rfl⟩, ⟨_, _, _, rfl⟩, trivial⟩ (Bx.new W _ _)) ?_) ?_
  ·intro vals W K hK;go_simp
   exact hK.out _ (by kernel_rfl)
  refine JC.s3 (n := 0) rfl fRn hctx ?_;refine JC.p hctx ?_;exact Ja.Steps.nil
 intro L vals w2 hall hJ;clear hAt1;have hq2 := hJ.q;have hG2 := hG1.trans hq2;have hz2 := hq2.size;have hP2 := hP1.q hq2;have hR2 := hR1.q hq2;have hX2 := hX1.q hq2;have nX2 := Nq.q nX1 hq2;clear hG1 hP1 hR1 hX1 nX1;obtain ⟨gY, eY, geY, qY⟩ := hJ.fresh 0 rfl rfl (hall 5 (by decide)) (hall 6 (by decide));obtain ⟨AY1, kY1, cY1, AY2, kY2, cY2, hY2, nY2⟩ := aFQ (g := gY) (t := 32) qY (show Rq w2 (vals 3) (p) from hJ.s 3 (hall 3 (by decide)));clear qY;rw [eY];clear eY;have f8 : vals 7 = .int .i64 (ca) := hJ.s 7 (hall 7 (by decide));rw [f8];clear f8;clear hall hJ;go_upto_region 3 with fail
 by_cases hZ : ca = 0
 ·have HZ := Lib.hid hZ; clear hZ;have hAt2 : At0 w [⟨none, w.heap.size, 25, [.b, .s, .s], .agg #[.bool false, .slice none 0 0, .slice none 0 0], 8, 0⟩, ⟨none, w.heap.size + 1, 32, [.i, .s, .s], .agg #[.int .i64 0, .slice none 0 0, .slice none 0 0], 9, 1⟩, ⟨none, gX, 25, [.b, .s, .s], .agg #[.bool sX0, .slice AX1 kX1 cX1, .slice AX2 kX2 cX2], 1000, 0⟩, ⟨none, gY, 32, [.i, .s, .s], .agg #[.int .i64 (sn (p)), .slice AY1 kY1 cY1, .slice AY2 kY2 cY2], 1000, 0⟩] [(.agg #[.bool sX0, .slice AX1 kX1 cX1, .slice AX2 kX2 cX2], .gen (aN (p))), (.agg #[.int .i64 (sn (p)), .slice AY1 kY1 cY1, .slice AY2 kY2 cY2], .gen (pRn (p)))] w2 := At0.of hG2 ⟨nH hP2 (by omega), bA hR2 (by omega), nH hX2 (by omega), bA hY2 (by omega), trivial⟩ (by (simp [dO] <;> omega)) ⟨nX2, nY2, trivial⟩;clear hG2 hP2 hR2 hX2 hY2 nX2 nY2;refine mE (F := ?F4) w ([.gen (aN (p)), .gen (pRn (p)), .eq (.int .i64 (ca)), .eq (.bool true), .eq (.bool true), .eq (.int .i64 (ca)), .eq (.bool true), .eq (.bool true), .any, .any, .eq (.bool true)] : List Vs) _ _ (by kernel_rfl) (by kernel_rfl) hAt2 ?hF4 ?st4 ?en4
  case hF4 =>
   intro vals;simp only [Ja.fillL, Act.put, List.setIfInBounds_toArray, List.set_cons_zero, List.set_cons_succ, Nat.reduceAdd];exact rfl
  case st4 =>
   clear hAt2;intro hctx;refine JC.r3 (off := 0) (row := [.bool sX0, .slice AX1 kX1 cX1, .slice AX2 kX2 cX2]) (fun _ _ _ hL hJ => hJ.still 2 rfl rfl (Nat.le_of_ble_eq_true (by kernel_rfl))) (fun _ _ _ hJ => (hJ.kept 0 rfl)) hctx ?_;refine JC.r3 (off := 0) (row := [.int .i64 (sn (p)), .slice AY1 kY1 cY1, .slice AY2 kY2 cY2]) (fun _ _ _ hL hJ => hJ.still 3 rfl rfl (Nat.le_of_ble_eq_true (by kernel_rfl))) (fun _ _ _ hJ => (hJ.kept 1 rfl)) hctx ?_;refine JC.p hctx ?_;refine JC.u (.bool ((ca) == (0))) (congrArg Value.bool (beq_iff_eq.2 (HZ.out))) hctx ?_;refine JC.p hctx ?_;refine JC.p hctx ?_;refine JC.u (.bool ((ca) == (0))) (congrArg Value.bool (beq_iff_eq.2 (HZ.out))) hctx ?_;refine JC.p hctx ?_;refine JC.s3 (n := 0) rfl vV hctx ?_;refine JC.s3 (n := 1) rfl fRn hctx ?_;refine JC.p hctx ?_;exact Ja.Steps.nil
  intro L vals w3 hall hJ;clear hAt2;have hG3 := hJ.q;obtain ⟨sP0, AP1, kP1, cP1, AP2, kP2, cP2, hP3, nP3⟩ := rR (g := w.heap.size) (t := 25) (hJ.stored 0 rfl rfl (hall 8 (by decide))) (show Nq w3 (vals 0) (p) from hJ.s 0 (hall 0 (by decide)));obtain ⟨AR1, kR1, cR1, AR2, kR2, cR2, hR3, nR3⟩ := aFQ (g := w.heap.size + 1) (t := 32) (hJ.stored 1 rfl rfl (hall 9 (by decide))) (show Rq w3 (vals 1) (p) from hJ.s 1 (hall 1 (by decide)));have hX3 : Bx w3 (gX) 25 [.bool sX0, .slice AX1 kX1 cX1, .slice AX2 kX2 cX2] := NbV.out (hJ.still 2 rfl rfl (Nat.le_of_ble_eq_true (by kernel_rfl)));have nX3 : Nq w3 (.agg #[.bool sX0, .slice AX1 kX1 cX1, .slice AX2 kX2 cX2]) (p) := hJ.kept 0 rfl;have hY3 : Bx w3 (gY) 32 [.int .i64 (sn (p)), .slice AY1 kY1 cY1, .slice AY2 kY2 cY2] := NbV.out (hJ.still 3 rfl rfl (Nat.le_of_ble_eq_true (by kernel_rfl)));have nY3 : Rq w3 (.agg #[.int .i64 (sn (p)), .slice AY1 kY1 cY1, .slice AY2 kY2 cY2]) (p) := hJ.kept 1 rfl;have f4 : vals 10 = .bool true := hJ.s 10 (hall 10 (by decide));rw [f4];clear f4;clear hall hJ;go_wp2_with fail
  have zP0 : w3.cell? ⟨w.heap.size, 0, none⟩ = some (.bool sP0) := hP3.cell 0 rfl;have zP1 : w3.cell? ⟨w.heap.size, 1, none⟩ = some (.slice AP1 kP1 cP1) := hP3.cell 1 rfl;have zP2 : w3.cell? ⟨w.heap.size, 2, none⟩ = some (.slice AP2 kP2 cP2) := hP3.cell 2 rfl;have zR0 : w3.cell? ⟨w.heap.size + 1, 0, none⟩ = some (.int .i64 (sn (p))) := hR3.cell 0 rfl;have zR1 : w3.cell? ⟨w.heap.size + 1, 1, none⟩ = some (.slice AR1 kR1 cR1) := hR3.cell 1 rfl;have zR2 : w3.cell? ⟨w.heap.size + 1, 2, none⟩ = some (.slice AR2 kR2 cR2) := hR3.cell 2 rfl;refine bodyPost_ret (v := .tuple #[.agg #[.bool sP0, .slice AP1 kP1 cP1, .slice AP2 kP2 cP2], .agg #[.int .i64 (sn (p)), .slice AR1 kR1 cR1, .slice AR2 kR2 cR2], .bool true]) (by simp [results, Tryz.results19, go_sem, zP0, zP1, zP2, zR0, zR1, zR2]) rfl ?_;exact ⟨_, _, by rw [Hca.out, decide_eq_true HZ.out], by rw [Hp.out]; exact nP3, by rw [Hp.out]; exact nR3, hG3⟩
 ·have HZ := Lib.hid hZ; clear hZ;have hAt2 : At0 w [⟨none, w.heap.size, 25, [.b, .s, .s], .agg #[.bool false, .slice none 0 0, .slice none 0 0], 8, 0⟩, ⟨none, w.heap.size + 1, 32, [.i, .s, .s], .agg #[.int .i64 0, .slice none 0 0, .slice none 0 0], 9, 1⟩, ⟨none, gX, 25, [.b, .s, .s], .agg #[.bool sX0, .slice AX1 kX1 cX1, .slice AX2 kX2 cX2], 1000, 0⟩, ⟨none, gY, 32, [.i, .s, .s], .agg #[.int .i64 (sn (p)), .slice AY1 kY1 cY1, .slice AY2 kY2 cY2], 1000, 0⟩] [(.agg #[.bool sX0, .slice AX1 kX1 cX1, .slice AX2 kX2 cX2], .gen (aN (p))), (.agg #[.int .i64 (sn (p)), .slice AY1 kY1 cY1, .slice AY2 kY2 cY2], .gen (pRn (p)))] w2 := At0.of hG2 ⟨nH hP2 (by omega), bA hR2 (by omega), nH hX2 (by omega), bA hY2 (by omega), trivial⟩ (by (simp [dO] <;> omega)) ⟨nX2, nY2, trivial⟩;clear hG2 hP2 hR2 hX2 hY2 nX2 nY2;refine mE (F := ?F5) w ([.gen (aN (p)), .gen (pRn (p)), .eq (.int .i64 (ca)), .eq (.bool false), .eq (.bool false), .no, .no, .eq (.bool false), .any, .any, .eq (.bool false)] : List Vs) _ _ (by kernel_rfl) (by kernel_rfl) hAt2 ?hF5 ?st5 ?en5
  case hF5 =>
   intro vals;simp only [Ja.fillL, Act.put, List.setIfInBounds_toArray, List.set_cons_zero, List.set_cons_succ, Nat.reduceAdd];exact rfl
  case st5 =>
   clear hAt2;intro hctx;refine JC.r3 (off := 0) (row := [.bool sX0, .slice AX1 kX1 cX1, .slice AX2 kX2 cX2]) (fun _ _ _ hL hJ => hJ.still 2 rfl rfl (Nat.le_of_ble_eq_true (by kernel_rfl))) (fun _ _ _ hJ => (hJ.kept 0 rfl)) hctx ?_;refine JC.r3 (off := 0) (row := [.int .i64 (sn (p)), .slice AY1 kY1 cY1, .slice AY2 kY2 cY2]) (fun _ _ _ hL hJ => hJ.still 3 rfl rfl (Nat.le_of_ble_eq_true (by kernel_rfl))) (fun _ _ _ hJ => (hJ.kept 1 rfl)) hctx ?_;refine JC.p hctx ?_;refine JC.u (.bool ((ca) == (0))) (congrArg Value.bool (beq_eq_false_iff_ne.2 (HZ.out))) hctx ?_;refine JC.p hctx ?_;refine JC.n hctx ?_;refine JC.n hctx ?_;refine JC.p hctx ?_;refine JC.s3 (n := 0) rfl vV hctx ?_;refine JC.s3 (n := 1) rfl fRn hctx ?_;refine JC.p hctx ?_;exact Ja.Steps.nil
  intro L vals w3 hall hJ;clear hAt2;have hG3 := hJ.q;obtain ⟨sP0, AP1, kP1, cP1, AP2, kP2, cP2, hP3, nP3⟩ := rR (g := w.heap.size) (t := 25) (hJ.stored 0 rfl rfl (hall 8 (by decide))) (show Nq w3 (vals 0) (p) from hJ.s 0 (hall 0 (by decide)));obtain ⟨AR1, kR1, cR1, AR2, kR2, cR2, hR3, nR3⟩ := aFQ (g := w.heap.size + 1) (t := 32) (hJ.stored 1 rfl rfl (hall 9 (by decide))) (show Rq w3 (vals 1) (p) from hJ.s 1 (hall 1 (by decide)));have hX3 : Bx w3 (gX) 25 [.bool sX0, .slice AX1 kX1 cX1, .slice AX2 kX2 cX2] := NbV.out (hJ.still 2 rfl rfl (Nat.le_of_ble_eq_true (by kernel_rfl)));have nX3 : Nq w3 (.agg #[.bool sX0, .slice AX1 kX1 cX1, .slice AX2 kX2 cX2]) (p) := hJ.kept 0 rfl;have hY3 : Bx w3 (gY) 32 [.int .i64 (sn (p)), .slice AY1 kY1 cY1, .slice AY2 kY2 cY2] := NbV.out (hJ.still 3 rfl rfl (Nat.le_of_ble_eq_true (by kernel_rfl)));have nY3 : Rq w3 (.agg #[.int .i64 (sn (p)), .slice AY1 kY1 cY1, .slice AY2 kY2 cY2]) (p) := hJ.kept 1 rfl;have f4 : vals 10 = .bool false := hJ.s 10 (hall 10 (by decide));rw [f4];clear f4;clear hall hJ;go_wp2_with fail
  have zP0 : w3.cell? ⟨w.heap.size, 0, none⟩ = some (.bool sP0) := hP3.cell 0 rfl;have zP1 : w3.cell? ⟨w.heap.size, 1, none⟩ = some (.slice AP1 kP1 cP1) := hP3.cell 1 rfl;have zP2 : w3.cell? ⟨w.heap.size, 2, none⟩ = some (.slice AP2 kP2 cP2) := hP3.cell 2 rfl;have zR0 : w3.cell? ⟨w.heap.size + 1, 0, none⟩ = some (.int .i64 (sn (p))) := hR3.cell 0 rfl;have zR1 : w3.cell? ⟨w.heap.size + 1, 1, none⟩ = some (.slice AR1 kR1 cR1) := hR3.cell 1 rfl;have zR2 : w3.cell? ⟨w.heap.size + 1, 2, none⟩ = some (.slice AR2 kR2 cR2) := hR3.cell 2 rfl;refine bodyPost_ret (v := .tuple #[.agg #[.bool sP0, .slice AP1 kP1 cP1, .slice AP2 kP2 cP2], .agg #[.int .i64 (sn (p)), .slice AR1 kR1 cR1, .slice AR2 kR2 cR2], .bool false]) (by simp [results, Tryz.results19, go_sem, zP0, zP1, zP2, zR0, zR1, zR2]) rfl ?_;exact ⟨_, _, by rw [Hca.out, decide_eq_false HZ.out], by rw [Hp.out]; exact nP3, by rw [Hp.out]; exact nR3, hG3⟩
theorem dA {z : Int} (h1 : -9223372036854775808 ≤ z) (h2 : z < 9223372036854775808) : IntKind.i64.wrap z = z := by
 by_cases h0 : z < 0
 ·have e : z % 2 ^ 64 = z + 18446744073709551616 := (by omega);simp only [IntKind.wrap, IntKind.bits, IntKind.signed, e];rw [if_pos]
  ·omega
  ·simp; omega
 ·have e : z % 2 ^ 64 = z := (by omega);simp only [IntKind.wrap, IntKind.bits, IntKind.signed, e];rw [if_neg];simp; omega
def lg (N D : Nat) : Int := if N * 2 ^ (-((bl N : Int) - (bl D : Int))).toNat < D * 2 ^ ((bl N : Int) - (bl D : Int)).toNat then (bl N : Int) - (bl D : Int) - 1 else (bl N : Int) - (bl D : Int)
theorem aGd {s : Int} {N D : Nat} (hD : 0 < D) : 1 ≤ fl s N D ↔ ¬ N * 2 ^ (-s).toNat < D * 2 ^ s.toNat := by
 unfold fl;have h := Nat.mul_pos hD (two_pow_pos s.toNat);rw [Nat.le_div_iff_mul_le h, Nat.one_mul]; omega
theorem aF8 {N D : Nat} (hN : 0 < N) (hD : 0 < D) : fl (lg N D) N D = 1 := by
 obtain ⟨k, hk⟩ : ∃ k, (bl N : Int) - (bl D : Int) = k := ⟨_, rfl⟩
 have h1 := aAE (b := 1) (s := k - 1) hN hD (by decide) (by omega);have h2 := (aAC (N := N) (k - 1) hD).1;rw [show k - 1 + 1 = k by omega] at h2;have h3 := aGd (s := k) (N := N) hD;have hb : ∀ n : Nat, 0 < n → 2 ^ (bl n - 1) ≤ n ∧ n < 2 ^ bl n := fun n h => (kH h).2;have h4 : 0 < fl (k - 1) N D := by
  rcases Nat.eq_zero_or_pos (fl (k - 1) N D) with h | h
  ·rw [h, lC] at h1; omega
  ·exact h
 obtain ⟨h5, h6⟩ := hb _ h4;unfold lg;rw [hk];rcases h1 with h | h <;> rw [h] at h5 h6
 ·have h7 : fl (k - 1) N D = 1 := (by have e1 : (2 : Nat) ^ (1 - 1) = 1 := rfl; have e2 : (2 : Nat) ^ 1 = 2 := rfl; omega);rw [if_pos (by rw [h7] at h2; omega)];exact h7
 ·have h7 : fl k N D = 1 := (by have e1 : (2 : Nat) ^ (1 + 1 - 1) = 2 := rfl; have e2 : (2 : Nat) ^ (1 + 1) = 4 := rfl; omega);rw [if_neg (by omega)];exact h7
theorem aHM {q : Rat} (h : q ≠ 0) : 0 < q.num.natAbs := by
 have : q.num ≠ 0 := fun e => h (Rat.num_eq_zero.1 e);omega
theorem aF9 {b : Nat} {x : Rat} (hx : x ≠ 0) (hb : 0 < b) : ulp b x = lg x.num.natAbs x.den - b + 1 := aFW (aHM hx) (den_nz x) hb (aF8 (aHM hx) (den_nz x))
theorem aGe {b : Nat} {x : Rat} (hx : x ≠ 0) (hb : 0 < b) {k : Int} (hk : k = lg x.num.natAbs x.den - b + 1) : ((x * pw (-k)).floor : Rat) * pw k = dn b x := by
 rw [hk, ← aF9 hx hb]; unfold dn; rw [if_neg hx]
theorem wI (x : Rat) : -(64 * (sz x : Int)) - 1 ≤ lg x.num.natAbs x.den ∧ lg x.num.natAbs x.den ≤ 64 * (sz x : Int) := by
 have h1 := Nat.le_trans (iB x.num.natAbs) (Nat.mul_le_mul_left 64 (gI x));have h2 := Nat.le_trans (iB x.den) (Nat.mul_le_mul_left 64 (lW x));unfold lg;split <;> omega
theorem aFR (p : Rat) (k : Nat) : p * pw (k : Int) * ((p.den : Nat) : Rat) = ((sn p : Int) : Rat) * ((p.num.natAbs * 2 ^ k : Nat) : Rat) := by
 have h := aF7 p;rw [sN, lQ];grind
theorem qN (p : Rat) (k : Nat) : p * pw (-(k : Int)) * ((p.den * 2 ^ k : Nat) : Rat) = ((sn p : Int) : Rat) * ((p.num.natAbs : Nat) : Rat) := by
 have h := aF7 p;have h2 := pw_inv' (k : Int);rw [lQ] at h2;rw [sN, ← h];grind
theorem dM (N k : Nat) : dg B30 (N * 2 ^ k) ≤ dg B30 N + k + 1 := by
 have h1 := dY aF N (2 ^ k);have h2 : dg B30 (2 ^ k) ≤ k + 1 := by
  rw [aD aF];exact Nat.lt_of_lt_of_le (Nat.pow_lt_pow_right (by decide) (Nat.lt_succ_self k)) (Nat.pow_le_pow_left (by decide) _)
 omega
theorem kD (p : Rat) (s : Int) : sz (p * pw s) ≤ sz p + s.natAbs + 2 := by
 have h1 := qC p (pw s);have h2 := aFB s;omega
theorem dB (p : Rat) : sz ((p.floor : Int) : Rat) ≤ sz p + 3 := by
 have h3 : p.num.natAbs / p.den ≤ p.num.natAbs := Nat.div_le_self _ _;have h2 : p.floor.natAbs ≤ p.num.natAbs + 1 := by
  rw [bB];generalize p.num.natAbs / p.den = k at *
  split
  ·rw [Int.natAbs_neg, Int.natAbs_natCast]; split <;> omega
  ·rw [Int.natAbs_natCast]; omega
 have h1 := aR aB h2;have h4 := lH aB p.num.natAbs 1;have h5 := bZ aB;have e : sz ((p.floor : Int) : Rat) = dg W64 p.floor.natAbs + dg W64 1 := by
  show dg W64 ((p.floor : Int) : Rat).num.natAbs + dg W64 ((p.floor : Int) : Rat).den = _;rw [Rat.num_intCast, Rat.den_intCast]
 have h6 := fO p;rw [e]; omega
theorem kG {p : Rat} (hn : p < 0) (hr : ¬ p.num.natAbs % p.den = 0) : ((p.floor : Int) : Rat) * ((1 : Nat) : Rat) = ((sn p : Int) : Rat) * ((p.num.natAbs / p.den + 1 : Nat) : Rat) := by
 rw [bB, if_pos hn, if_neg hr];have h : sn p = -1 := by unfold sn; rw [if_pos hn]
 rw [h, show ((1 : Nat) : Rat) = 1 from rfl, Rat.mul_one, Rat.intCast_neg, Rat.intCast_neg, Rat.intCast_natCast];grind
theorem lL {p : Rat} (hn : p < 0) (hr : p.num.natAbs % p.den = 0) : ((p.floor : Int) : Rat) * ((1 : Nat) : Rat) = ((sn p : Int) : Rat) * ((p.num.natAbs / p.den : Nat) : Rat) := by
 rw [bB, if_pos hn, if_pos hr];have h : sn p = -1 := by unfold sn; rw [if_pos hn]
 rw [h, show ((1 : Nat) : Rat) = 1 from rfl, Rat.mul_one, Rat.intCast_neg, Rat.intCast_neg, Rat.intCast_natCast, Nat.add_zero];grind
theorem lM {p : Rat} (hn : 0 < p) : ((p.floor : Int) : Rat) * ((1 : Nat) : Rat) = ((sn p : Int) : Rat) * ((p.num.natAbs / p.den : Nat) : Rat) := by
 rw [bB, if_neg (by grind)];have h : sn p = 1 := by unfold sn; rw [if_neg (by grind), if_neg (by grind)]
 rw [h, show ((1 : Nat) : Rat) = 1 from rfl, Rat.mul_one, Rat.intCast_natCast];grind
theorem eT (x : Value) (N : Nat) (w : World) (hx : Nr w x N) (h : dg B30 N ≤ LIM) : Calls Tryz.prog 175 #[x] w fun e w' => e = .returned (.int .i64 (bl N : Int)) ∧ Q w w' := by
 refine (aDK x N w hx h).mono ?_;rintro e w' ⟨h, rfl⟩;exact ⟨h, Q.refl _⟩
theorem aF0 {N : Nat} (h : ¬ N = 0) : 0 < dg B30 N := by
 rcases Nat.eq_zero_or_pos (dg B30 N) with e | e
 ·exact absurd (aW aF e) h
 ·exact e
theorem gZ {p : Rat} (h : p ≠ 0) : ¬ sn p = 0 := fun e => h (fG.1 e)
theorem lV {p : Rat} (h : p < 0) : sn p < 0 := by unfold sn; rw [if_pos h]; decide
theorem aF1 {p : Rat} (h : ¬ p < 0) : ¬ sn p < 0 := by unfold sn; rw [if_neg h]; split <;> decide
end Go.Proofs.YtgpacgadpnpjjaaGreatDoor.K
